import PyProof.Rows.All
import Wide.All
import OpenK.AllK
import Wide.FinOn
import Lean
import PyProof.EqAt
import PyProof.EqKinds
import PyProof.TupleCall
import PyProof.ListRange
import PyProof.TupleOfSeq
import PyProof.WalksS
import PyProof.CollectWalk
import KE.KRevIter
import PyProof.P3In
import PyProof.SumAnyB
import PyProof.NeKinds
import KE.KEqDict
import PyProof.RulesAssignMore
import PyProof.SetRoads
import PyProof.Rows.SetFrom
import KE.KDictOf
import PySem.Challenge.RW_struckdeeds_k24_whole_touching_by_worlds
set_option Elab.async false
set_option linter.all false
set_option maxRecDepth 100000
set_option compiler.extract_closed false
set_option maxHeartbeats 4000000
open PySem.Str renaming ofString->a0Q
open PySem.Value renaming ref->a0X
open PySem.PyData renaming str->a0Z,canLayAll0->a0K,eqv->a0V,depthAll->a1V,keyHash->a3V,canLay0->a8V
open PySem.Txt renaming slice->a0J
open Bool renaming and_eq_true->a0W,eq_iff_iff->a2V,not_eq_true->b1Q
open PySem.W renaming mg_none_of->a1Q,kia_one->a1J,nsIn->a1W,boot_heap->a2Z,kHook->a3Q,fnOf->a3W,topRun->a4V,keepIn->a5Q,segRunT->a7W,boot_drawn->a8Q,codeIn->a8J,boot_toks->a9X,piecesOf->a9W
open List renaming mem_cons_self->a1X,lookup_cons->a1K,getElem_mem->a2X,replicate->a2W,range->a3X,drop_eq_nil_of_le->a3Z,length_drop->a4Q,filter_cons->a4X,length_replicate->a4K,find?_cons->a4W,length_take->a5K,replicate_succ->a5V,filterMap_cons->a6Q,any_cons->a6W,take_of_length_le->a7J,filter_sublist->a8X,append_nil->a8Z,eq_of_mem_replicate->b0Q,length_cons->b0K,any_eq_true->b0W,all_eq_true->b0V
open Sum renaming inr->a1Z
open PySem.Builtin.Str renaming strSliceIndices->a2Q,occurrences->a5Z
open Option renaming some->a2J,map_some->a7V,isSome_map->a9J,none->a9V
open PySem renaming mem_of_lookup->a2K
open PySem.NameKind renaming free->a3J
open PyProof.Rows renaming slot_tuple_getitem->a3K,boot_dict->a9Q
open PySem.Builtin.Slice renaming slicePlaces->a4Z,sliceAdjust->a7K
open PySem.Builtin.Tuple renaming tupleExact->a4J
open PySem.W.OpenRow renaming toRowW->a5X
open Ne renaming symm->a5J
open ForInStep renaming yield->a5W
open False renaming elim->a6X
open True renaming intro->a6Z
open Nat renaming add_le_add_left->a6J,min_eq_left->a7X,min_eq_right->b1X
open PySem.Obj renaming mapSeq->a6K
open PySem.W.RowW renaming records->a6V
open PySem.W.OpenLaw renaming row->a7Q
open Int renaming natCast_nonneg->a7Z,toNat_natCast->b0Z
open PySem.W.Hook renaming val->a8K,obs->a8W
open PySem.F renaming args_tuple_add_2->a9Z,entry_tuple_add->a9K,slot_tuple_add->b0X
open PySem.Calls renaming callWith_builtin->b0J
open PySem renaming wpAny_bind->zZ,wpAny_pure->zY,wpAny_newObj_type->xN
open List renaming length_map->zX,getElem?_eq_getElem->zV,mem_map->zL,size_toArray->zJ,map_cons->zI,getElem?_map->zF,map_map->zD,mem_append_right->zB,length_append->yY,mem_cons->yX,mem_append->yW,mem_cons_of_mem->yV,getElem?_eq_some_iff->yU,getElem?_append_left->yR,map_congr_left->yN,mem_filter->yM,length_filter_le->yL,nodup_cons->xW,map_append->xJ
open PySem.Heap renaming get?_push_of_some->zW,lt_size->zM,get?_push_size->yZ
open Nat renaming le_refl->zR,lt_of_le_of_lt->zQ,lt_of_lt_of_le->zP,le_trans->zN,ne_of_lt->zC,lt_irrefl->yG,zero_le->xU
open PySem.SeqAt renaming shaped->zH,canLay_of_shaped->zG
open PySem.Builtin.Int renaming intBits->xL
abbrev sT (n:Nat):PySem.Stmt:=PySem.Challenge.pw_struckdeeds_k24_whole_touching_by_worlds.main.body.getD n (.Pass ⟨0,0,0,0⟩)
abbrev Frg:=PySem.W.Frag
theorem nft:¬(false=true):=Bool.false_ne_true
namespace L2
open PySem PySem.Spec PyProof.Rows
abbrev Key:=Sum Int Str
def JU:Key->Value->Bool
 | .inl k,v=>Value.isInt k v
 | .inr x,v=>Value.isStrOf x v
def cO (w:World):Key->Int
 | .inl k=>hashInt k
 | .inr x=>hashStr w x
theorem AT:∀{k:Key}{v:Value},JU k v=true->(∃i t,k=Sum.inl i/\v=Value.int i t)\/(∃x t,k=a1Z x/\v=Value.str x t)
 | .inl i,v,h=>by obtain⟨t,e⟩:=Value.isInt_shape (k:=i) (v:=v) h;exact .inl ⟨i,t,rfl,e⟩
 | .inr x,v,h=>by obtain⟨t,e⟩:=Value.isStrOf_shape (x:=x) (v:=v) h;exact .inr ⟨x,t,rfl,e⟩
theorem PP (i:Int) (t:Tok):JU (.inl i) (.int i t)=true:=by simp[JU,Value.isInt]
theorem PQ (x:Str) (t:Tok):JU (.inr x) (.str x t)=true:=by simp[JU,Value.isStrOf]
theorem X7 (a b:Int):decide ((Sum.inl a:Key)=Sum.inl b)=(a==b):=by
 by_cases e:a=b;. subst e;simp
 . have h:¬(Sum.inl a:Key)=Sum.inl b:=λq=>e (Sum.inl.inj q);rw[decide_eq_false h];exact(beq_eq_false_iff_ne.mpr e).symm
theorem X8 (a b:Str):decide ((a1Z a:Key)=a1Z b)=decide (a=b):=by
 by_cases e:a=b;. subst e;simp
 . have h:¬(a1Z a:Key)=a1Z b:=λq=>e (Sum.inr.inj q);rw[decide_eq_false h,decide_eq_false e]
theorem X9 (a:Int) (b:Str):decide ((Sum.inl a:Key)=a1Z b)=false:=decide_eq_false (λq=>nomatch q)
theorem XA (a:Str) (b:Int):decide ((a1Z a:Key)=Sum.inl b)=false:=decide_eq_false (λq=>nomatch q)
def AL (prog:Program) (w:World):PySem.KeyKind prog w Key where
 is:=JU
 hash:=cO w
 inj:=λv a b ha hb=>by
   rcases AT ha with ⟨i,t,rfl,rfl⟩ | ⟨x,t,rfl,rfl⟩
   . rcases AT hb with ⟨j,u,rfl,e⟩ | ⟨y,u,rfl,e⟩
     . injection e with e1 _;rw[e1]
     . exact nomatch e
   . rcases AT hb with ⟨j,u,rfl,e⟩ | ⟨y,u,rfl,e⟩
     . exact nomatch e
     . injection e with e1 _;rw[e1]
 byValue:=λk v h=>by rcases AT h with ⟨i,t,rfl,rfl⟩ | ⟨x,t,rfl,rfl⟩ <;> rfl
 pyHash:=λhv h=>by
   rcases AT hv with ⟨i,t,rfl,rfl⟩ | ⟨x,t,rfl,rfl⟩
   . exact wpAny_pyHash_int h
   . exact wpAny_pyHash_str h
 eqBool:=λhu hv h=>by
   rcases AT hu with ⟨i,t,rfl,rfl⟩ | ⟨x,t,rfl,rfl⟩
   . rcases AT hv with ⟨j,u,rfl,rfl⟩ | ⟨y,u,rfl,rfl⟩
     . rw[X7] at h;exact wpAny_eqBool_int h
     . rw[X9] at h;exact SeqAt.EqAt.int_str i t y u _ _ _ _ h
   . rcases AT hv with ⟨j,u,rfl,rfl⟩ | ⟨y,u,rfl,rfl⟩
     . rw[XA] at h;exact SeqAt.EqAt.str_int x t j u _ _ _ _ h
     . rw[X8] at h;exact wpAny_eqBool_str h
 «strs»:=λk x t v h=>by
   rcases AT h with ⟨i,u,rfl,e⟩ | ⟨y,u,rfl,e⟩
   . exact nomatch e
   . injection e with e1 _;subst e1;cases v <;> rfl
theorem LX (prog:Program) (w:World) (i:Int) (t:Tok):(AL prog w).is (.inl i) (.int i t)=true:=PP i t
theorem HB (prog:Program) (w:World) (x:Str) (t:Tok):(AL prog w).is (.inr x) (.str x t)=true:=PQ x t
inductive V where
 | non | bl (b:Bool) | int (i:Int) | str (x:Str) | byt (b:Array UInt8) | flt (b:UInt64) | ref (a:Addr) | ty (n:String)
 deriving DecidableEq
def RelV:V->Value->Prop
 | .non,u=>u=Value.none
 | .bl b,u=>u=Value.bool b
 | .int i,u=>∃t,u=Value.int i t
 | .str x,u=>∃t,u=Value.str x t
 | .byt b,u=>∃t,u=Value.bytes b t
 | .flt b,u=>∃t,u=Value.float b t
 | .ref a,u=>u=a0X a
 | .ty n,u=>u=Value.type n
abbrev Vals:List V->List Value->Prop:=Paired RelV
theorem Vals.length {xs:List V}{us:List Value}(r:Vals xs us):xs.length=us.length:=Paired.length r
theorem Vals.get:∀{xs:List V}{us:List Value}{i:Nat}{x:V},Vals xs us->xs[i]?=some x->∃u,us[i]?=some u/\RelV x u
 | _,_,_,_,.nil,e=>by simp at e
 | _,_,0,_,.cons r _,e=>by simp at e;subst e;exact⟨_,rfl,r⟩
 | _,_,i+1,x,.cons _ t,e=>by obtain⟨u,h1,h2⟩:=Vals.get (i:=i) (x:=x) t (by simpa using e);exact⟨u,by simpa using h1,h2⟩
theorem Vals.set {x:V}{u:Value}(r:RelV x u):∀{xs:List V}{us:List Value}(i:Nat),Vals xs us->Vals (xs.set i x) (us.set i u)
 | _,_,_,.nil=>.nil
 | _,_,0,.cons _ t=>.cons r t
 | _,_,i+1,.cons q t=>.cons q (Vals.set r i t)
theorem Vals.append:∀{xs ys:List V}{us ws:List Value},Vals xs us->Vals ys ws->Vals (xs++ys) (us++ws)
 | _,_,_,_,.nil,s=>s
 | _,_,_,_,.cons r t,s=>.cons r (Vals.append t s)
theorem Vals.take:∀{xs:List V}{us:List Value}(n:Nat),Vals xs us->Vals (xs.take n) (us.take n)
 | _,_,0,_=>.nil
 | _,_,_+1,.nil=>.nil
 | _,_,n+1,.cons r t=>.cons r (Vals.take n t)
theorem Vals.drop:∀{xs:List V}{us:List Value}(n:Nat),Vals xs us->Vals (xs.drop n) (us.drop n)
 | _,_,0,r=>r
 | _,_,_+1,.nil=>.nil
 | _,_,n+1,.cons _ t=>Vals.drop n t
def RelO:Option V->Option Value->Prop
 | some v,some u=>RelV v u
 | none,none=>True
 | _,_=>False
def KV {κ:Type}:List (κ×V)->List (κ×Value)->Prop:=Paired λ(p:κ×V) (q:κ×Value)=>p.1=q.1/\RelV p.2 q.2
def kV:Key->V
 | .inl i=>.int i
 | .inr x=>.str x
inductive HO where
 | lst (xs:List V)
 | tup (xs:List V)
 | dK (kvs:List (Key×V)) | dT (kvs:List (List Key×V))
 | set (S:Int->Bool) (n:Nat)
 | ins (C dx:Addr) (fs:List (Str×V))
 | own (x:Addr)
 | xd (fs:List (Str×V))
 | met (f x:Addr)
 | rng (lo hi:Int)
 | frz (o:Obj) (u:HO)
 | tbl (ps:Array Value)
 | ext (φ:Heap->Prop)
abbrev Hp:=Addr->Option HO
def upd (H:Hp) (a:Addr) (o:HO):Hp:=λb=>if b=a then some o else H b
theorem AN {H:Hp}{a:Addr}{o:HO}:upd H a o a=some o:=by unfold upd;rw[if_pos rfl]
theorem AO {H:Hp}{a b:Addr}{o:HO}(h:b≠a):upd H a o b=H b:=by unfold upd;rw[if_neg h]
theorem aE {H:Hp}{a b:Addr}{o u:HO}(h:H a=some o) (h':H b=some u) (d:o≠u):a≠b:=by intro e;subst e;rw[h] at h';exact d (Option.some.inj h')
theorem B5 {H:Hp}{a b:Addr}{o:HO}(h:H a=some o) (h':H b=none):a≠b:=by intro e;subst e;rw[h] at h';cases h'
section
variable (P:Program) (w:World)
def ObjOk (H:Hp) (h:Heap) (a:Addr):HO->Prop
 | .lst xs=>xs.length<=sizeLine/\∃(aa:List Value) (n:Nat),Vals xs aa/\h.get? a=some { cls:=.type "list", data:=.seq aa.toArray n }
 | .tup xs=>xs.length<=sizeLine/\∃aa:List Value,Vals xs aa/\IsTup h a aa.toArray
 | .dK kvs=>kvs.length<=sizeLine/\(a==sysModules)=false/\∃vs,KV kvs vs/\h.DictOf (AL P w) a vs
 | .dT kvs=>kvs.length<=sizeLine/\(a==sysModules)=false/\∃xs:List (List Key×Addr×Value),
     Paired (λ(p:List Key×V) (q:List Key×Addr×Value)=>p.1=q.1/\H q.2.1=some (.tup (p.1.map kV))/\RelV p.2 q.2.2) kvs xs /\
     ∃o es ep,h.get? a=some o/\o.ExactDict/\o.data = .dict es ep/\es.toList=xs.map (entryOfKey (tupleKind (AL P w)))/\(xs.map (·.1)).Nodup
 | .set S n=>h.SetOf (intKind P w) a S n
 | .ins C dx fs=>H dx=some (.own a)/\fs.length<=1000/\dx≠a/\h.get? a=some (PySem.W.instObj C dx) /\∃mA,h.Ns1 dx mA/\(∀f,RelO (fs.lookup f) (mA f))/\PySem.Within mA (fs.map (·.1))
 | .own _=>∃o,h.get? a=some o
 | .xd fs=>∃mA,h.Ns1 a mA/\∀f,RelO (fs.lookup f) (mA f)
 | .rng lo hi=>∃t u v,h.get? a=some { cls:=.type "range", data:=.fields #[.int lo t,.int hi u,.int 1 v] }
 | .frz o u=>h.get? a=some o/\ObjOk H h a u
 | .tbl ps=>h.get? a=some { cls:=.none,data:=.fields ps }
 | .met f x=>h.get? a=some (PySem.W.methodObj (.ref f) (.ref x))
 | .ext φ=>φ h/\(∃o,h.get? a=some o)/\∀h1 h2:Heap,φ h1->(∀o,h1.get? a=some o->h2.get? a=some o)->φ h2
def HOk (H:Hp) (h:Heap):Prop:=∀a o,H a=some o->ObjOk P w H h a o
end
section
variable {P:Program}{w:World}{H H':Hp}{h h':Heap}{a:Addr}{o:HO}
theorem ObjOk.lt (x:ObjOk P w H h a o):a < h.objs.size:=by
 cases o with
 | lst xs=>obtain⟨_,_,_,_,e⟩:=x;exact zM e
 | tup xs=>obtain⟨_,_,_,p⟩:=x;exact p.lt
 | dK kvs=>obtain⟨_,_,_,_,o,_,_,e,_⟩:=x;exact zM e
 | dT kvs=>obtain⟨_,_,_,_,o,_,_,e,_⟩:=x;exact zM e
 | set S n=>obtain⟨o,_,_,_,e,_⟩:=x;exact zM e
 | ins C dx fs=>obtain⟨_,_,_,e,_⟩:=x;exact zM e
 | own y=>obtain⟨_,e⟩:=x;exact zM e
 | xd fs=>obtain⟨_,⟨_,_,_,e,_⟩,_⟩:=x;exact zM e
 | rng lo hi=>obtain⟨_,_,_,e⟩:=x;exact zM e
 | frz ob u=>obtain⟨e,_⟩:=x;exact zM e
 | tbl ps=>exact zM (show h.get? a=some _ from x)
 | met f y=>exact zM (show h.get? a=some _ from x)
 | ext φ=>obtain⟨_,⟨_,e⟩,_⟩:=x;exact zM e
theorem Paired.mapP {α β:Type}{F G:α->β->Prop}:∀{l₁:List α}{l₂:List β},Paired F l₁ l₂->(∀a b,F a b->G a b)->Paired G l₁ l₂
 | _,_,.nil,_=>.nil
 | _,_,.cons r t,f=>.cons (f _ _ r) (Paired.mapP t f)
theorem ObjOk.stay (x:ObjOk P w H h a o) (k:∀b u,(b=a\/H b=some (.own a))->h.get? b=some u->h'.get? b=some u) (ho:∀b,H b=some (.own a)->H' b=some (.own a)) (ht:∀b xs,H b=some (.tup xs)->H' b=some (.tup xs)):ObjOk P w H' h' a o:=by
 induction o with
 | lst xs=>obtain⟨z,aa,n,r,e⟩:=x;exact⟨z,aa,n,r,k _ _ (.inl rfl) e⟩
 | tup xs=>obtain⟨z,aa,r,ob,e,c⟩:=x;exact⟨z,aa,r,ob,k _ _ (.inl rfl) e,c⟩
 | dK kvs=>obtain⟨z,y,vs,r,ob,es,ep,e,c⟩:=x;exact⟨z,y,vs,r,ob,es,ep,k _ _ (.inl rfl) e,c⟩
 | dT kvs=> obtain⟨z,y,xs,r,ob,es,ep,e,c⟩:=x;exact⟨z,y,xs,Paired.mapP r λp q z=>⟨z.1,ht _ _ z.2.1,z.2.2⟩,ob,es,ep,k _ _ (.inl rfl) e,c⟩
 | set S n=>obtain⟨ob,es,ep,t,e,c⟩:=x;exact⟨ob,es,ep,t,k _ _ (.inl rfl) e,c⟩
 | ins C dx fs=> obtain⟨d,z,ne,e,mA,⟨od,es,ep,e2,c⟩,r⟩:=x;exact⟨ho _ d,z,ne,k _ _ (.inl rfl) e,mA,⟨od,es,ep,k _ _ (.inr d) e2,c⟩,r⟩
 | own y=>obtain⟨ob,e⟩:=x;exact⟨ob,k _ _ (.inl rfl) e⟩
 | xd fs=>obtain⟨mA,⟨od,es,ep,e,c⟩,r⟩:=x;exact⟨mA,⟨od,es,ep,k _ _ (.inl rfl) e,c⟩,r⟩
 | rng lo hi=>obtain⟨t,u,v,e⟩:=x;exact⟨t,u,v,k _ _ (.inl rfl) e⟩
 | frz ob u ih=>obtain⟨e,q⟩:=x;exact⟨k _ _ (.inl rfl) e,ih q⟩
 | tbl ps=> have e:h.get? a=some { cls:=.none,data:=.fields ps }:=x;show h'.get? a=some { cls:=.none,data:=.fields ps };exact k a _ (.inl rfl) e
 | met f y=> have e:h.get? a=some (PySem.W.methodObj (.ref f) (.ref y)):=x;show h'.get? a=some (PySem.W.methodObj (.ref f) (.ref y));exact k a _ (.inl rfl) e
 | ext φ=>obtain⟨p,⟨o,e⟩,st⟩:=x;exact⟨st _ _ p λo q=>k _ _ (.inl rfl) q,⟨o,k _ _ (.inl rfl) e⟩,st⟩
theorem HOk.lt (x:HOk P w H h) (e:H a=some o):a < h.objs.size:=(x a o e).lt
theorem HOk.fresh (x:HOk P w H h) (e:h.objs.size<=a):H a=none:=by
 cases q:H a with
 | none=>rfl
 | some u=>exact absurd (zP (x.lt q) e) (yG _)
theorem HOk.kept (x:HOk P w H h) (k:∀b u,h.get? b=some u->h'.get? b=some u):HOk P w H h':=λa o e=>
 (x a o e).stay (λb u _ q=>k b u q) (λ_ q=>q) λ_ _ q=>q
theorem HOk.laid (x:HOk P w H h) (k:∀b u,h.get? b=some u->h'.get? b=some u) (hp:h.objs.size<=a) (new:ObjOk P w (upd H a o) h' a o):HOk P w (upd H a o) h':=λb u e=>by
 have hn:=x.fresh hp;by_cases hb:b=a;. subst hb;rw[AN] at e;cases e;exact new
 . rw[AO hb] at e;exact(x b u e).stay (λc v _ q=>k c v q) (λc q=>by rw[AO (B5 q hn)];exact q) λc xs q=>by rw[AO (B5 q hn)];exact q
end
def Rd (H:Hp) (a:Addr) (u:HO):Prop:=H a=some u\/∃o,H a=some (.frz o u)
theorem Rd.ok {P:Program}{w:World}{H:Hp}{h:Heap}{a:Addr}{u:HO}(r:Rd H a u) (x:HOk P w H h):ObjOk P w H h a u:=by
 rcases r with r | ⟨o,r⟩
 . exact x a u r
 . obtain⟨_,q⟩:=x a _ r;exact q
def Mut:Option HO->Prop
 | some (.lst _)=>True
 | some (.dK _)=>True
 | some (.dT _)=>True
 | some (.set _ _)=>True
 | some (.ins _ _ _)=>True
 | some (.ext _)=>True
 | _=>False
section
variable {P:Program}{w:World}{H:Hp}{h h':Heap}{x e:Addr}{o':HO}
theorem HOk.write (ok:HOk P w H h) (mu:Mut (H x)) (he:e=x\/H e=some (.own x)) (k:∀b u,b≠e->h.get? b=some u->h'.get? b=some u) (fA:∃u,h'.get? e=some u) (new:ObjOk P w (upd H x o') h' x o'):HOk P w (upd H x o') h':=λb u q=>by
 have fE:∀c y,H c=some (.own y)->c≠x:=λc y r z=>by subst z;rw[r] at mu;exact mu
 have gH:∀c xs,H c=some (.tup xs)->c≠x:=λc xs r z=>by subst z;rw[r] at mu;exact mu
 by_cases hb:b=x;. subst hb;rw[AN] at q;cases q;exact new
 . rw[AO hb] at q;by_cases hbe:b=e
   . have q':H b=some (.own x):=by
       rcases he with z | z;. exact absurd (hbe.trans z) hb
       . rw[hbe];exact z
     rw[q] at q';cases q';obtain⟨v,hv⟩:=fA;exact⟨v,by rw[hbe];exact hv⟩
   . refine(ok b u q).stay (λc v hc r=>k c v ?_ r) (λc r=>by rw[AO (fE c b r)];exact r) λc xs r=>by rw[AO (gH c xs r)];exact r
     rcases hc with rfl | hc;. exact hbe
     . rintro rfl;rcases he with z | z;. exact fE c b hc z
       . rw[hc] at z;cases z;exact hb rfl
end
structure Un (fs ex:List Addr) (H H':Hp) (h h':Heap):Prop where
 keep:∀b o,h.get? b=some o->H b=none->b∉fs->b∉ex->h'.get? b=some o
 slot:∀b o,h.get? b=some o->H b=none->b∈fs->b∉ex->∃sl,h'.get? b=some { o with slots:=sl }
 free:∀b o,h.get? b=some o->H b=none->b∉ex->H' b=none
 there:∀b o,h.get? b=some o->b∉ex->∃o',h'.get? b=some o'
 tups:∀b xs,H b=some (.tup xs)->H' b=some (.tup xs)
 frzs:∀b o u,H b=some (.frz o u)->H' b=some (.frz o u)
 tbls:∀b ps,H b=some (.tbl ps)->∃more,H' b=some (.tbl (ps++more))
section
variable {fs jy ex jz:List Addr}{H H1 H2:Hp}{h h1 h2 h':Heap}{a x e:Addr}{o:HO}
theorem Un.any (u:Un fs ex H H1 h h1) {b:Addr}{ob:Obj}(q:h.get? b=some ob) (n:H b=none) (hx:b∉ex):∃sl,h1.get? b=some { ob with slots:=sl }:=by
 by_cases hb:b∈fs;. exact u.slot b ob q n hb hx
 . exact⟨ob.slots,u.keep b ob q n hb hx⟩
theorem Un.kept (k:∀b u,h.get? b=some u->h'.get? b=some u):Un fs ex H H h h':=⟨λb ob q _ _ _=>k b ob q,λb ob q _ _ _=>⟨ob.slots,k b ob q⟩,λ_ _ _ n _=>n,λb ob q _=>⟨ob,k b ob q⟩,λ_ _ q=>q,λ_ _ _ q=>q,λ_ ps q=>⟨#[],by rw[q];simp⟩⟩
theorem Un.refl:Un fs ex H H h h:=Un.kept λ_ _ q=>q
theorem Un.laid (k:∀b u,h.get? b=some u->h'.get? b=some u) (hp:h.objs.size<=a) (hn:H a=none):Un fs ex H (upd H a o) h h' where
 keep:=λb u q _ _ _=>k b u q
 slot:=λb u q _ _ _=>⟨u.slots,k b u q⟩
 free:=λb u q n _=>by rw[AO (zC (zP (zM q) hp))];exact n
 there:=λb u q _=>⟨u,k b u q⟩
 tups:=λb xs q=>by rw[AO (B5 q hn)];exact q
 frzs:=λb u xs q=>by rw[AO (B5 q hn)];exact q
 tbls:=λb ps q=>⟨#[],by rw[AO (B5 q hn),q];simp⟩
theorem Un.write (mu:Mut (H x)) (he:e=x\/H e=some (.own x)) (k:∀b u,b≠e->h.get? b=some u->h'.get? b=some u) (fA:∃u,h'.get? e=some u):Un fs ex H (upd H x o) h h':=by
 have hx:∀b,H b=none->b≠x:=λb n z=>by subst z;rw[n] at mu;exact mu
 have hb:∀b,H b=none->b≠e:=λb n z=>by
   subst z;rcases he with r | r;. exact hx b n r
   . rw[n] at r;cases r
 have hm:∀b u,H b=some u->¬Mut (some u)->b≠x:=λb u q nm z=>by subst z;rw[q] at mu;exact nm mu
 refine⟨λb u q n _ _=>k b u (hb b n) q,λb u q n _ _=>⟨u.slots,k b u (hb b n) q⟩,λb u q n _=>by rw[AO (hx b n)];exact n,λb u q _=>?_,
   λb xs q=>by rw[AO (hm b _ q λz=>z)];exact q,λb u xs q=>by rw[AO (hm b _ q λz=>z)];exact q,λb ps q=>⟨#[],by rw[AO (hm b _ q λz=>z),q];simp⟩⟩;by_cases hbe:b=e
 . subst hbe;exact fA
 . exact⟨u,k b u hbe q⟩
end
def trk (h:Heap) (H:Hp):List Addr:=(a3X h.objs.size).filter λa=>(H a).isSome
def KD (h:Heap) (H:Hp):Heap:=PySem.W.hideAll h (trk h H)
theorem PR (h:Heap) (H:Hp):(KD h H).objs.size=h.objs.size:=PySem.W.hideAll_size _ _
theorem RE {h:Heap}{H:Hp}{b:Addr}{o:Obj}(e:h.get? b=some o) (n:H b=none):(KD h H).get? b=some o:=
 PySem.W.hideAll_get _ e λhm=>by have q:(H b).isSome=true:=(yM.mp hm).2;rw[n] at q;simp at q
theorem UC {h:Heap}{H:Hp}{b:Addr}{o:Obj}(e:(KD h H).get? b=some o):h.get? b=some o/\H b=none:=by
 have e':h.get? b=some o:=PySem.W.of_hideAll (trk h H) e;refine⟨e',?_⟩;cases q:H b with
 | none=>rfl
 | some x=> have hm:b∈trk h H:=yM.mpr ⟨List.mem_range.mpr (zM e'),by simp[q]⟩;have z:(KD h H).get? b=none:=PySem.W.hideAll_none (trk h H) hm;rw[z] at e;cases e
structure Mod (K:Frg) (mg:Str->Option Value) (base:Heap):Prop where
 kin:K.In base
 glob:base.Ns mainGlobals mg
 blt:∃mb,base.Ns builtinsNs mb/\∀x:Str,x ≠ "__name__" -> mb x=bootBuiltins x
 nolimit:base.NoLimit
structure Cx where
 prog:Program
 w:World
 K:Frg
 mg:Str->Option Value
 base:Heap
 A:Around
 N:List Str
 s₀:Shared
 H₀:Hp
 env:Env
 outer:List Env
 stack:List Env
 ex:List Addr
 fn:Str->Bool
 calm:Bool
 pn:List (Addr×Obj)
 xe:Value->Shared->Prop
def frs (l:List Env):List Addr:=l.filterMap (·.frame)
abbrev Cx.fs (X:Cx):List Addr:=frs X.outer
def Vis (sc:Scope) (x:Str):Prop:=sc.names.lookup x=some .local\/sc.names.lookup x=some .cell\/sc.names.lookup x=some .free
def Loc (sc:Scope) (x:Str):Prop:=sc.names.lookup x=some .local\/sc.names.lookup x=some .cell
def cP (env:Env) (h:Heap) (m:Str->Option Value) (x:Str) (u:Value):Prop:=(env.kindOf x=some .local/\m x=some u)\/((env.kindOf x=some .cell\/env.kindOf x=some .free)/\∃c,env.cells.lookup x=some c/\h.IsCell c (some u))
structure Cx.Ok (X:Cx):Prop where
 mod:Mod X.K X.mg X.base
 kind:X.env.scope.kind = .function
 glob:X.env.globals=mainGlobals
 blt:X.env.builtins=builtinsNs
 above:X.s₀.heap.objs.size<=X.env.locals
 inj:∀x y c,X.env.cells.lookup x=some c->X.env.cells.lookup y=some c->x=y
 has:∀x,(X.env.kindOf x=some .cell\/X.env.kindOf x=some .free)->∃c,X.env.cells.lookup x=some c
 cab:∀x c,X.fn x=true->X.env.cells.lookup x=some c->X.s₀.heap.objs.size<=c
 hd:X.calm=true->X.A.handled=none
 frames:X.A.frames=some X.stack
 stk:X.stack=X.outer\/(X.stack=X.env::X.outer/\X.env.frame=some X.env.locals)
 exf:∀b∈X.ex,b≠X.env.locals/\∀x c,X.env.cells.lookup x=some c->c≠b
 bs:∀b o,X.base.get? b=some o->X.s₀.heap.get? b=some o/\X.H₀ b=none
 bsz:X.base.objs.size<=X.s₀.heap.objs.size
 noex:∀b o,X.base.get? b=some o->b∉X.ex
 exfs:∀b∈X.ex,b∉X.fs
 funs:X.s₀.heap.FunFrames X.base X.outer
 frf:∀b∈X.fs,X.H₀ b=none
structure Inv (X:Cx) (pins:List (Addr×Obj)) (σ:List (Option V)) (H:Hp) (s:Shared):Prop where
 ok:X.Ok
 os:s.os=X.s₀.os
 bare:AllBare s.gens
 base:Un X.fs X.ex X.H₀ H X.s₀.heap s.heap
 loc:∃m,s.heap.Ns X.env.locals m/\∀(i:Nat) (x:Str) (v:V),X.N[i]?=some x->σ[i]?=some (some v)->Vis X.env.scope x->∃u,RelV v u/\cP X.env s.heap m x u
 cell:∀x c,X.env.cells.lookup x=some c->∃v,s.heap.IsCell c v
 free:H X.env.locals=none
 freeC:∀x c,X.env.cells.lookup x=some c->H c=none
 pin:∀p∈X.pn++pins,s.heap.get? p.1=some p.2/\H p.1=none/\p.1≠X.env.locals/\p.1∉X.fs/\∀v,p.2.data≠.cell v
 hok:HOk X.prog X.w H s.heap
 len:σ.length=X.N.length
section
variable {X:Cx}{pins:List (Addr×Obj)}{σ:List (Option V)}{H H':Hp}{s:Shared}{h':Heap}
theorem Cx.Ok.nofr (ok:X.Ok) {b:Addr}{o:Obj}(e:X.base.get? b=some o):b∉X.fs:=λhb=>by have:=(ok.funs.mem hb).1;rw[e] at this;cases this
theorem Inv.bs (I:Inv X pins σ H s):∀b o,X.base.get? b=some o->s.heap.get? b=some o/\H b=none:=λb o e=>
 ⟨I.base.keep b o (I.ok.bs b o e).1 (I.ok.bs b o e).2 (I.ok.nofr e) (I.ok.noex b o e),I.base.free b o (I.ok.bs b o e).1 (I.ok.bs b o e).2 (I.ok.noex b o e)⟩
theorem Inv.bk (I:Inv X pins σ H s):∀b o,X.base.get? b=some o->s.heap.get? b=some o:=λb o e=>(I.bs b o e).1
theorem Inv.mod (I:Inv X pins σ H s):Mod X.K X.mg X.base:=I.ok.mod
theorem Inv.kIn (I:Inv X pins σ H s):X.K.In s.heap:=I.ok.mod.kin.keeps I.bk
theorem Inv.lt (I:Inv X pins σ H s):X.env.locals < s.heap.objs.size:=let ⟨_,hn,_⟩:=I.loc;hn.lt
theorem Inv.sz (I:Inv X pins σ H s):X.s₀.heap.objs.size<=s.heap.objs.size:=zN I.ok.above (Nat.le_of_lt I.lt)
theorem Inv.nofs (I:Inv X pins σ H s) {a:Addr}(h:s.heap.objs.size<=a):a∉X.fs:=λhb=>by obtain⟨_,o,ho,_⟩:=I.ok.funs.mem hb;exact absurd (zP (zM ho) (zN I.sz h)) (yG _)
theorem Inv.cne (I:Inv X pins σ H s):∀x c,X.env.cells.lookup x=some c->c≠X.env.locals:=λx c e z=>by obtain⟨v,o,ho,hd⟩:=I.cell x c e;obtain⟨m,⟨o',es,ep,e_,fB,_⟩,_⟩:=I.loc;rw[z,e_] at ho;cases ho;rw[fB] at hd;cases hd
theorem Inv.funs (I:Inv X pins σ H s):s.heap.FunFrames X.base X.outer:=by
 have all:∀(l:List Env),(∀b∈frs l,b∈X.fs)->X.s₀.heap.FunFrames X.base l->s.heap.FunFrames X.base l:=by
   intro l;induction l with
   | nil=>intro _ _;trivial
   | cons env r ih=> intro hs hl;obtain⟨hk,⟨L,o,hf,hn,ho,hd⟩,hr⟩:=hl;have hL:L∈X.fs:=hs L (by unfold frs;rw[a6Q,hf];exact a1X);obtain⟨sl,e⟩:=I.base.slot L o ho (I.ok.frf L hL) hL λz=>I.ok.exfs L z hL;exact⟨hk,⟨L,_,hf,hn,e,hd⟩,ih (λb hb=>hs b (by unfold frs;rw[a6Q,hf];exact yV _ hb)) hr⟩
 exact all X.outer (λ_ hb=>hb) I.ok.funs
theorem Inv.stack (I:Inv X pins σ H s):s.heap.FunFrames X.base X.stack:=by
 rcases I.ok.stk with e | ⟨e,hf⟩
 . rw[e];exact I.funs
 . rw[e];obtain⟨m,hn,_⟩:=I.loc;refine .cons (by rw[I.ok.kind];decide) hf hn ?_ I.funs;exact Heap.get?_none_of_le (zN I.ok.bsz I.ok.above)
theorem Inv.stkSub (I:Inv X pins σ H s):∀b∈frs X.stack,b∈X.env.locals::X.fs:=λb hb=>by
 rcases I.ok.stk with e | ⟨e,hf⟩
 . rw[e] at hb;exact yV _ hb
 . rw[e] at hb;unfold frs at hb;rw[a6Q,hf] at hb;exact hb
theorem Inv.stkFree (I:Inv X pins σ H s):∀b∈frs X.stack,H b=none:=λb hb=>by
 rcases yX.mp (I.stkSub b hb) with e | hb;. rw[e];exact I.free
 . obtain⟨_,o,ho,_⟩:=I.ok.funs.mem hb;exact I.base.free b o ho (I.ok.frf b hb) λz=>I.ok.exfs b z hb
theorem Inv.step {g':Array GenState}{t':Nat}{d':Drawn}{ch:List Addr}(I:Inv X pins σ H s) (e5:∀b∈ch,(b∈X.ex\/X.s₀.heap.objs.size<=b)/\b≠X.env.locals/\(∀x c,X.env.cells.lookup x=some c->c≠b)/\∀p∈X.pn++pins,p.1≠b) (keep:∀b o,b≠X.env.locals->b∉X.fs->b∉ch->s.heap.get? b=some o->H b=none->h'.get? b=some o) (slot:∀b o,b≠X.env.locals->b∈X.fs->b∉ch->s.heap.get? b=some o->H b=none->∃sl,h'.get? b=some { o with slots:=sl }) (free:∀b o,b∉ch->s.heap.get? b=some o->H b=none->H' b=none) (there:∀b o,b∉ch->s.heap.get? b=some o->∃o',h'.get? b=some o') (tups:∀b xs,H b=some (.tup xs)->H' b=some (.tup xs)) (frzs:∀b o u,H b=some (.frz o u)->H' b=some (.frz o u)) (tbls:∀b ps,H b=some (.tbl ps)->∃more,H' b=some (.tbl (ps++more))) (ns:∀m,s.heap.Ns X.env.locals m->h'.Ns X.env.locals m) (hok:HOk X.prog X.w H' h') (hg:AllBare g') :
   Inv X pins σ H' { s with heap:=h',gens:=g',drawn:=d',toks:=t' }:=by
 have iz:∀b o,X.s₀.heap.get? b=some o->b≠X.env.locals:=λb o e=>zC (zP (zM e) I.ok.above);have gw:∀b o,X.s₀.heap.get? b=some o->b∉X.ex->b∉ch:=λb o e hx hb=>by
   rcases (e5 b hb).1 with z | z;. exact hx z
   . exact absurd (zP (zM e) z) (yG _)
 have cellK:∀x c,X.env.cells.lookup x=some c->∀v,s.heap.IsCell c v->h'.IsCell c v:=λx c e v ⟨o,ho,hd⟩=>by
   have fF:c∉ch:=λz=>(e5 c z).2.2.1 x c e rfl;by_cases hc:c∈X.fs;. obtain⟨sl,q⟩:=slot c o (I.cne x c e) hc fF ho (I.freeC x c e);exact⟨_,q,hd⟩
   . exact⟨o,keep c o (I.cne x c e) hc fF ho (I.freeC x c e),hd⟩
 refine⟨I.ok,I.os,hg,⟨λb o e n hb hx=>?_,λb o e n hb hx=>?_,λb o e n hx=>?_,λb o e hx=>?_,λb xs e=>tups b xs (I.base.tups b xs e),λb o xs e=>frzs b o xs (I.base.frzs b o xs e),λb ps e=>?_⟩,?_,λx c e=>?_,?_,λx c e=>?_,λp hp=>?_,hok,I.len⟩;. exact keep b o (iz b o e) hb (gw b o e hx) (I.base.keep b o e n hb hx) (I.base.free b o e n hx)
 . obtain⟨sl,e1⟩:=I.base.slot b o e n hb hx;obtain⟨j_,e2⟩:=slot b _ (iz b o e) hb (gw b o e hx) e1 (I.base.free b o e n hx);exact⟨j_,e2⟩
 . obtain⟨o',e1⟩:=I.base.there b o e hx;exact free b o' (gw b o e hx) e1 (I.base.free b o e n hx)
 . obtain⟨o',e1⟩:=I.base.there b o e hx;exact there b o' (gw b o e hx) e1
 . obtain⟨m1,e1⟩:=I.base.tbls b ps e;obtain⟨m2,e2⟩:=tbls b _ e1;exact⟨m1++m2,by rw[e2,Array.append_assoc]⟩
 . obtain⟨m,hn,hl⟩:=I.loc;refine⟨m,ns m hn,λi x v e1 e2 e3=>?_⟩;obtain⟨u,r,l⟩:=hl i x v e1 e2 e3;refine⟨u,r,?_⟩;rcases l with l | ⟨k,c,e,z⟩
   . exact .inl l
   . exact .inr ⟨k,c,e,cellK x c e _ z⟩
 . obtain⟨v,z⟩:=I.cell x c e;exact⟨v,cellK x c e v z⟩
 . obtain⟨m,⟨o,_,_,ho,_⟩,_⟩:=I.loc;exact free _ o (λz=>(e5 _ z).2.1 rfl) ho I.free
 . obtain⟨v,o,ho,hd⟩:=I.cell x c e;exact free c o (λz=>(e5 c z).2.2.1 x c e rfl) ho (I.freeC x c e)
 . obtain⟨e,n,ne,nf,d⟩:=I.pin p hp;have fF:p.1∉ch:=λz=>(e5 p.1 z).2.2.2 p hp rfl;exact⟨keep p.1 p.2 ne nf fF e n,free p.1 p.2 fF e n,ne,nf,d⟩
theorem Inv.un {t':Nat}(I:Inv X pins σ H s) (u:Un X.fs [] H H' s.heap h') (hok:HOk X.prog X.w H' h'):Inv X pins σ H' { s with heap:=h',toks:=t' }:=by obtain⟨m,⟨o,es,ep,ho,r⟩,_⟩:=id I.loc;obtain⟨sl,hL⟩:=u.any ho I.free (by simp);exact I.step (g':=s.gens) (d':=s.drawn) (ch:=[]) (λ_ z=>nomatch z) (λb o _ hb _ e n=>u.keep b o e n hb (by simp)) (λb o _ hb _ e n=>u.slot b o e n hb (by simp)) (λb o _ e n=>u.free b o e n (by simp)) (λb o _ e=>u.there b o e (by simp)) u.tups u.frzs u.tbls (λm' hm=>by obtain⟨o',gI,gJ,e_,r'⟩:=hm;rw[ho] at e_;cases e_;exact⟨_,gI,gJ,hL,r'⟩) hok I.bare
theorem Inv.call {g':Array GenState}{t':Nat}{d':Drawn}{ch:List Addr}(I:Inv X pins σ H s) (u:Un (frs X.stack) ch H H' s.heap h') (hok:HOk X.prog X.w H' h') (hg:AllBare g') (e5:∀b∈ch,(b∈X.ex\/X.s₀.heap.objs.size<=b)/\b≠X.env.locals/\(∀x c,X.env.cells.lookup x=some c->c≠b)/\∀p∈X.pn++pins,p.1≠b) :
   Inv X pins σ H' { s with heap:=h',gens:=g',drawn:=d',toks:=t' }:=by obtain⟨m,⟨o,es,ep,ho,r⟩,_⟩:=id I.loc;obtain⟨sl,hL⟩:=u.any ho I.free λz=>(e5 _ z).2.1 rfl;exact I.step (ch:=ch) e5 (λb o hL hb hc e n=>u.keep b o e n (λz=>(yX.mp (I.stkSub b z)).elim hL hb) hc) (λb o _ _ hc e n=>u.any e n hc) (λb o hc e n=>u.free b o e n hc) (λb o hc e=>u.there b o e hc) u.tups u.frzs u.tbls (λm' hm=>by obtain⟨o',gI,gJ,e_,r'⟩:=hm;rw[ho] at e_;cases e_;exact⟨_,gI,gJ,hL,r'⟩) hok hg
theorem Inv.turned {t':Nat}{it:Addr}(I:Inv X pins σ H s) (k:∀b o,b≠it->s.heap.get? b=some o->h'.get? b=some o) (hn:H it=none) (hL:it≠X.env.locals) (h1:it∈X.ex\/X.s₀.heap.objs.size<=it) (h2:∀x c,X.env.cells.lookup x=some c->c≠it) (h3:∀p∈X.pn++pins,p.1≠it):Inv X pins σ H { s with heap:=h',toks:=t' }:=by
 have i_:∀b u,H b=some u->b≠it:=λb u e z=>by rw[z,hn] at e;cases e
 refine I.step (g':=s.gens) (d':=s.drawn) (ch:=[it]) (λb hb=>?_) (λb o _ _ hc e _=>k b o (λz=>hc (by simp[z])) e) (λb o _ _ hc e _=>⟨o.slots,k b o (λz=>hc (by simp[z])) e⟩) (λ_ _ _ _ n=>n)
   (λb o hc e=>⟨o,k b o (λz=>hc (by simp[z])) e⟩) (λ_ _ e=>e) (λ_ _ _ e=>e) (λb ps e=>⟨#[],by rw[e];simp⟩) (λm hm=>?_) (λb u e=>?_) I.bare
 . have e:b=it:=by simpa using hb
   subst e;exact⟨h1,hL,h2,h3⟩
 . obtain⟨o,es,ep,ho,r⟩:=hm;exact⟨o,es,ep,k _ o (a5J hL) ho,r⟩
 . refine(I.hok b u e).stay (λc v hc q=>k c v ?_ q) (λ_ q=>q) λ_ _ q=>q;rcases hc with z | z;. rw[z];exact i_ b u e
   . exact i_ c _ z
theorem Inv.tok (I:Inv X pins σ H s) (t:Nat):Inv X pins σ H { s with toks:=t }:=I.un (h':=s.heap) (t':=t) Un.refl I.hok
theorem Inv.kept {t':Nat}(I:Inv X pins σ H s) (k:∀b u,s.heap.get? b=some u->h'.get? b=some u):Inv X pins σ H { s with heap:=h',toks:=t' }:=I.un (Un.kept k) (I.hok.kept k)
theorem Inv.laid {a:Addr}{o:HO}{t':Nat}(I:Inv X pins σ H s) (k:∀b u,s.heap.get? b=some u->h'.get? b=some u) (hp:s.heap.objs.size<=a) (new:ObjOk X.prog X.w (upd H a o) h' a o) :
   Inv X pins σ (upd H a o) { s with heap:=h',toks:=t' }:=I.un (Un.laid k hp (I.hok.fresh hp)) (I.hok.laid k hp new)
theorem Inv.write {x e:Addr}{o:HO}{t':Nat}(I:Inv X pins σ H s) (mu:Mut (H x)) (he:e=x\/H e=some (.own x)) (k:∀b u,b≠e->s.heap.get? b=some u->h'.get? b=some u) (fA:∃u,h'.get? e=some u) (new:ObjOk X.prog X.w (upd H x o) h' x o):Inv X pins σ (upd H x o) { s with heap:=h',toks:=t' }:=I.un (Un.write mu he k fA) (I.hok.write mu he k fA new)
theorem Inv.weak {σ':List (Option V)}(I:Inv X pins σ H s) (hl:σ'.length=σ.length) (w:∀(i:Nat) v,σ'[i]?=some (some v)->σ[i]?=some (some v)):Inv X pins σ' H s:=⟨I.ok,I.os,I.bare,I.base,let ⟨m,hn,gK⟩:=I.loc;⟨m,hn,λi x v e1 e2 e3=>gK i x v e1 (w i v e2) e3⟩,I.cell,I.free,I.freeC,I.pin,I.hok,hl.trans I.len⟩
theorem Inv.pins_of {dW:List (Addr×Obj)}(I:Inv X pins σ H s) (h:∀p∈dW,s.heap.get? p.1=some p.2/\H p.1=none/\p.1≠X.env.locals/\p.1∉X.fs/\∀v,p.2.data≠.cell v):Inv X dW σ H s:=⟨I.ok,I.os,I.bare,I.base,I.loc,I.cell,I.free,I.freeC,λp hp=>(yW.mp hp).elim (λz=>I.pin p (List.mem_append_left _ z)) (h p),I.hok,I.len⟩
theorem LY {N:List Str}(hN:N.Nodup) {i j:Nat}{x:Str}(a:N[i]?=some x) (b:N[j]?=some x):i=j:=by obtain⟨h1,e1⟩:=yU.mp a;obtain⟨h2,e2⟩:=yU.mp b;exact(List.getElem_inj hN).mp (e1.trans e2.symm)
theorem PU {M:Model}{A:Around}{E:Value->Shared->Prop}{i:Nat}{x:Str}{v:V}{u:Value}{Q:Unit->Shared->Prop}(I:Inv X pins σ H s) (hN:X.N.Nodup) (hi:X.N[i]?=some x) (hx:Loc X.env.scope x) (r:RelV v u) (h:∀s',Inv X pins (σ.set i (some v)) H s'->(∃a,Heap.SameBut a s.heap s'.heap/\(a=X.env.locals\/X.env.cells.lookup x=some a))->Q () s') (hf:X.fn x=true\/X.env.scope.names.lookup x=some .local:=by first | exact .inl rfl | exact .inr rfl | assumption):wpAny M A (storeName X.env x u) Q E s:=by
 obtain⟨m,hn,hl⟩:=id I.loc;have gL:(X.env.scope.kind==.class||(X.env.scope.kind==.module&&X.env.locals != X.env.globals))=false:=by rw[I.ok.kind];rfl
 have i0:i < σ.length:=by rw[I.len];exact(yU.mp hi).1
 have cne:=I.cne;have tracked:∀{a:Addr}{h':Heap},(∃o,s.heap.get? a=some o/\H a=none)->Heap.SameBut a s.heap h'->HOk X.prog X.w H h':=λ{a h'} ha hs b ob e=>by
   obtain⟨_,_,eU⟩:=ha;refine(I.hok b ob e).stay (λc w' hc q=>(hs.2 c ?_).trans q) (λ_ q=>q) λ_ _ q=>q;rintro rfl;rcases hc with rfl | hc;. rw[eU] at e;cases e
   . rw[eU] at hc;cases hc
 rcases hx with hk | hk
 . refine wpAny_storeName_local hk hn (λh' fG hs=>?_) gL;obtain⟨oL,_,_,gx,_⟩:=id hn;refine h _ ⟨I.ok,I.os,I.bare,⟨λb o e n hb hx=>?_,λb o e n hb hx=>?_,I.base.free,λb o e hx=>?_,I.base.tups,I.base.frzs,I.base.tbls⟩,⟨_,fG,λj y v' e1 e2 e3=>?_⟩,λy c e=>?_,I.free,I.freeC,λp hp=>?_,tracked ⟨oL,gx,I.free⟩ hs,by simpa using I.len⟩ ⟨_,hs,.inl rfl⟩;. exact(hs.2 b (zC (zP (zM e) I.ok.above))).trans (I.base.keep b o e n hb hx)
   . obtain⟨sl,e1⟩:=I.base.slot b o e n hb hx;exact⟨sl,(hs.2 b (zC (zP (zM e) I.ok.above))).trans e1⟩
   . obtain⟨o',e1⟩:=I.base.there b o e hx;exact⟨o',(hs.2 b (zC (zP (zM e) I.ok.above))).trans e1⟩
   . by_cases hj:j=i;. subst hj;rw[hi] at e1;cases e1;rw[List.getElem?_set_self i0] at e2;cases e2;exact⟨u,r,.inl ⟨hk,by simp⟩⟩
     . rw[List.getElem?_set_ne (a5J hj)] at e2;obtain⟨u',r',q⟩:=hl j y v' e1 e2 e3;refine⟨u',r',?_⟩;rcases q with ⟨k,e⟩ | ⟨k,c,e,z⟩
       . refine .inl ⟨k,?_⟩;have:y≠x:=λe=>hj (LY hN e1 (e▸hi));simp[this,e]
       . exact .inr ⟨k,c,e,z.sameBut hs (cne y c e)⟩
   . obtain⟨w',z⟩:=I.cell y c e;exact⟨w',z.sameBut hs (cne y c e)⟩
   . obtain⟨e,n,ne,nf,d⟩:=I.pin p hp;exact⟨(hs.2 p.1 ne).trans e,n,ne,nf,d⟩
 . have gM:X.fn x=true:=by
     rcases hf with z | z;. exact z
     . rw[z] at hk;cases hk
   obtain⟨c,hc⟩:=I.ok.has x (.inl hk);obtain⟨w',z⟩:=I.cell x c hc;refine wpAny_storeName_cell I.ok.kind hk hc z (λh' eV hs=>?_);obtain⟨oc,i5,gN⟩:=id z;refine h { s with heap:=h' } ⟨I.ok,I.os,I.bare,⟨λb o e n hb hx=>?_,λb o e n hb hx=>?_,I.base.free,λb o e hx=>?_,I.base.tups,I.base.frzs,I.base.tbls⟩,⟨m,hn.sameBut hs (a5J (cne x c hc)),λj y v' e1 e2 e3=>?_⟩,λy c' e=>?_,I.free,I.freeC,λp hp=>?_,tracked ⟨oc,i5,I.freeC x c hc⟩ hs,by simpa using I.len⟩ ⟨c,hs,.inr hc⟩;. exact(hs.2 b (zC (zP (zM e) (I.ok.cab x c gM hc)))).trans (I.base.keep b o e n hb hx)
   . obtain⟨sl,e1⟩:=I.base.slot b o e n hb hx;exact⟨sl,(hs.2 b (zC (zP (zM e) (I.ok.cab x c gM hc)))).trans e1⟩
   . obtain⟨o',e1⟩:=I.base.there b o e hx;exact⟨o',(hs.2 b (zC (zP (zM e) (I.ok.cab x c gM hc)))).trans e1⟩
   . by_cases hj:j=i;. subst hj;rw[hi] at e1;cases e1;rw[List.getElem?_set_self i0] at e2;cases e2;exact⟨u,r,.inr ⟨.inl hk,c,hc,eV⟩⟩
     . rw[List.getElem?_set_ne (a5J hj)] at e2;obtain⟨u',r',q⟩:=hl j y v' e1 e2 e3;refine⟨u',r',?_⟩;rcases q with q | ⟨k,c',e,z'⟩
       . exact .inl q
       . refine .inr ⟨k,c',e,z'.sameBut hs ?_⟩;rintro rfl;exact hj (LY hN e1 (I.ok.inj _ _ _ e hc▸hi))
   . by_cases gy:c'=c;. subst gy;exact⟨_,eV⟩
     . obtain⟨w2,z2⟩:=I.cell y c' e;exact⟨w2,z2.sameBut hs gy⟩
   . obtain⟨e,n,ne,nf,d⟩:=I.pin p hp;refine⟨(hs.2 p.1 ?_).trans e,n,ne,nf,d⟩;intro q;rw[q,i5] at e;have q':oc=p.2:=Option.some.inj e;exact d w' (by rw[<-q'];exact gN)
theorem FX {M:Model}{A:Around}{E:Value->Shared->Prop}{i:Nat}{x:Str}{v:V}{u:Value}{Q:Unit->Shared->Prop}(I:Inv X pins σ H s) (hN:X.N.Nodup) (hi:X.N[i]?=some x) (hx:Loc X.env.scope x) (r:RelV v u) (h:∀s',Inv X pins (σ.set i (some v)) H s'->Q () s') (hf:X.fn x=true\/X.env.scope.names.lookup x=some .local:=by first | exact .inl rfl | exact .inr rfl | assumption):wpAny M A (storeName X.env x u) Q E s:=
 PU I hN hi hx r (λs' I' _=>h s' I') hf
theorem Inv.call' {s':Shared}{ch:List Addr}(I:Inv X pins σ H s) (ho:s'.os=s.os) (u:Un (frs X.stack) ch H H' s.heap s'.heap) (hok:HOk X.prog X.w H' s'.heap) (hg:AllBare s'.gens) (e5:∀b∈ch,(b∈X.ex\/X.s₀.heap.objs.size<=b)/\b≠X.env.locals/\(∀x c,X.env.cells.lookup x=some c->c≠b)/\∀p∈X.pn++pins,p.1≠b):Inv X pins σ H' s':=by obtain⟨h',g',d',t',o'⟩:=s';have e:o'=s.os:=ho;subst e;exact I.call (g':=g') (t':=t') (d':=d') u hok hg e5
end
abbrev XK:=Value->Option Addr->Hp->Prop
abbrev St:=List (Option V)
abbrev VK:=V->Hp->Prop
abbrev TE:=St->Hp->VK->Prop
abbrev TT:=St->Hp->(Bool->Hp->Prop)->Prop
abbrev TA:=St->Hp->(List V->Hp->Prop)->Prop
structure Ends where
 nx:St->Hp->Prop
 rt:VK
 bk:St->Hp->Prop:=λ_ _=>False
 ct:St->Hp->Prop:=λ_ _=>False
abbrev TS:=Ends->St->Hp->Prop
def EP (X:Cx) (pins:List (Addr×Obj)) (σ:St) (Q:VK) (u:Value) (s':Shared):Prop:=∃v H',Inv X pins σ H' s'/\RelV v u/\Q v H'
def TP (X:Cx) (pins:List (Addr×Obj)) (σ:St) (Q:Bool->Hp->Prop) (b:Bool) (s':Shared):Prop:=∃H',Inv X pins σ H' s'/\Q b H'
def AP (X:Cx) (pins:List (Addr×Obj)) (σ:St) (Q:List V->Hp->Prop) (us:List Value) (s':Shared):Prop:=∃vs H',Inv X pins σ H' s'/\Vals vs us/\Q vs H'
def SP (X:Cx) (pins:List (Addr×Obj)) (D:Ends) (f:Flow) (s':Shared):Prop:=
 match f with
 | .next=>∃σ' H',Inv X pins σ' H' s'/\D.nx σ' H'
 | .brk=>∃σ' H',Inv X pins σ' H' s'/\D.bk σ' H'
 | .cont=>∃σ' H',Inv X pins σ' H' s'/\D.ct σ' H'
 | .ret u=>∃v σ' H',Inv X pins σ' H' s'/\RelV v u/\D.rt v H'
def PE (X:Cx) (e:Expr) (t:TE):Prop:=∀(pins:List (Addr×Obj)) (s:Shared) (σ:St) (H:Hp) (Q:VK),Inv X pins σ H s->t σ H Q->wpAny (model X.prog X.w) X.A (eval e X.env) (EP X pins σ Q) X.xe s
def PT (X:Cx) (e:Expr) (t:TT):Prop:=∀(pins:List (Addr×Obj)) (s:Shared) (σ:St) (H:Hp) (Q:Bool->Hp->Prop),Inv X pins σ H s->t σ H Q->wpAny (model X.prog X.w) X.A (isTrue e X.env (eval e X.env)) (TP X pins σ Q) X.xe s
def PW (X:Cx) (e:Expr) (t:TT):Prop:=∀(whole:Sem Value) (pins:List (Addr×Obj)) (s:Shared) (σ:St) (H:Hp) (Q:Bool->Hp->Prop),Inv X pins σ H s->t σ H Q->wpAny (model X.prog X.w) X.A (isTrue e X.env whole) (TP X pins σ Q) X.xe s
theorem PW.pt {X:Cx}{e:Expr}{t:TT}(h:PW X e t):PT X e t:=h _
def PA (X:Cx) (es:List Expr) (t:TA):Prop:=∀(pos:Pos) (pins:List (Addr×Obj)) (s:Shared) (σ:St) (H:Hp) (Q:List V->Hp->Prop),Inv X pins σ H s->t σ H Q->wpAny (model X.prog X.w) X.A (spliced (backTo pos (starEach es X.env))) (AP X pins σ Q) X.xe s
def PS (X:Cx) (st:Stmt) (t:TS):Prop:=∀(pins:List (Addr×Obj)) (s:Shared) (σ:St) (H:Hp) (D:Ends),Inv X pins σ H s->t D σ H->wpAny (model X.prog X.w) X.A (exec st X.env) (SP X pins D) X.xe s
def PSs (X:Cx) (st:List Stmt) (t:TS):Prop:=∀(pins:List (Addr×Obj)) (s:Shared) (σ:St) (H:Hp) (D:Ends),Inv X pins σ H s->t D σ H->wpAny (model X.prog X.w) X.A (execs st X.env) (SP X pins D) X.xe s
theorem thn {α:Type}{t:Sem α}{Q Q':α->Shared->Prop}{M:Model}{A:Around}{E:Value->Shared->Prop}{s:Shared}(h:wpAny M A t Q E s) (hQ:∀a s,Q a s->Q' a s):wpAny M A t Q' E s:=wpAny_mono h hQ λ_ _ x=>x
section
variable {X:Cx}
def UD (i:Nat):TE:=λσ H Q=>∃v,σ[i]?=some (some v)/\Q v H
def tC (v:V):TE:=λ_ H Q=>Q v H
theorem RF {i:Nat}{x:Str}{pos:Pos}(hN:X.N[i]?=some x) (hv:Vis X.env.scope x) (hd:(x==("__debug__":Str))=false:=by decide) (dX:(x==("__classdict__":Str))=false:=by decide):PE X (.Name x pos) (UD i):=by
 intro pins s σ H Q I h;obtain⟨v,e,h⟩:=h;obtain⟨m,hn,hl⟩:=I.loc;obtain⟨u,r,l⟩:=hl i x v hN e hv;have fin:EP X pins σ Q u s:=⟨v,H,I,r,h⟩
 rcases l with ⟨hk,hm⟩ | ⟨hk,c,hc,dI⟩
 . exact wpAny_Name (wpAny_loadName_local I.ok.kind hk hn hm fin) hd
 . rcases hk with hk | hk;. exact wpAny_Name (wpAny_loadName_cell I.ok.kind hk hc dI fin) hd
   . exact wpAny_Name (wpAny_loadName_free I.ok.kind hk hc dI fin dX) hd
theorem XB {i j pos}:PE X (.Constant (.int i) j pos) (tC (.int i)):=λ_ _ _ H _ I h=>wpAny_Constant_int ⟨.int i,H,I.tok _,⟨_,rfl⟩,h⟩
theorem aF {b j pos}:PE X (.Constant (.bool b) j pos) (tC (.bl b)):=λ_ _ _ H _ I h=>Constant_bool ⟨.bl b,H,I,rfl,h⟩
theorem XC {j pos}:PE X (.Constant .none j pos) (tC .non):=λ_ _ _ H _ I h=>Constant_none ⟨.non,H,I,rfl,h⟩
theorem XD {x j pos}:PE X (.Constant (.str x) j pos) (tC (.str x)):=λ_ _ _ H _ I h=>Calls.Constant_str ⟨.str x,H,I.tok _,⟨_,rfl⟩,h⟩
def Gl (X:Cx) (x:Str):Prop:=X.env.kindOf x=some .globalImplicit
theorem KF {E:Value->Shared->Prop}{pins:List (Addr×Obj)}{s:Shared}{σ:St}{H:Hp}{x:Str}{u:Value}{pos:Pos}{Q:Value->Shared->Prop}(I:Inv X pins σ H s) (hg:Gl X x) (hm:X.mg x=some u) (h:Q u s) (hd:(x==("__debug__":Str))=false:=by decide):wpAny (model X.prog X.w) X.A (eval (.Name x pos) X.env) Q E s:=
 Calls.Name_function_global I.ok.kind hg (Calls.loadGlobal_global (by rw[I.ok.glob];exact I.mod.glob.keeps I.bk) hm h) hd
theorem KG {E:Value->Shared->Prop}{pins:List (Addr×Obj)}{s:Shared}{σ:St}{H:Hp}{x:Str}{u:Value}{pos:Pos}{Q:Value->Shared->Prop}(I:Inv X pins σ H s) (hg:Gl X x) (hm:X.mg x=none) (hv:bootBuiltins x=some u) (h:Q u s) (hn:x ≠ "__name__" := by decide) (hd:(x==("__debug__":Str))=false:=by decide):wpAny (model X.prog X.w) X.A (eval (.Name x pos) X.env) Q E s:=by obtain⟨mb,h1,h2⟩:=I.mod.blt;exact Calls.Name_function_global I.ok.kind hg (Calls.loadGlobal_builtin (by rw[I.ok.glob];exact I.mod.glob.keeps I.bk) hm (by rw[I.ok.blt];exact h1.keeps I.bk) ((h2 x hn).trans hv) h) hd
theorem UE {x:Str}{v:V}{u:Value}{pos:Pos}(hg:Gl X x) (hm:X.mg x=some u) (r:RelV v u) (hd:(x==("__debug__":Str))=false:=by decide):PE X (.Name x pos) (tC v):=
 λ_ _ _ H _ I h=>KF I hg hm ⟨v,H,I,r,h⟩ hd
theorem E3 {x:Str}{v:V}{u:Value}{pos:Pos}(hg:Gl X x) (hm:X.mg x=none) (hv:bootBuiltins x=some u) (r:RelV v u) (hn:x ≠ "__name__" := by decide) (hd:(x==("__debug__":Str))=false:=by decide):PE X (.Name x pos) (tC v):=
 λ_ _ _ H _ I h=>KG I hg hm hv ⟨v,H,I,r,h⟩ hn hd
variable {a b:Expr}{ta tb:TE}{pos:Pos}
def PC (X:Cx) (op:CmpOp) (a b:Expr) (t:TE):Prop:=∀(pins:List (Addr×Obj)) (s:Shared) (σ:St) (H:Hp) (Q:VK),Inv X pins σ H s->t σ H Q ->
   wpAny (model X.prog X.w) X.A (eval a X.env) (λv s₁=>wpAny (model X.prog X.w) X.A (eval b X.env) (λu s₂=>wpAny (model X.prog X.w) X.A (compareOp op v u) (EP X pins σ Q) X.xe s₂) X.xe s₁) X.xe s
def tB (t:TE):TT:=λσ H Q=>t σ H λx H1=>∃c,x = .bl c/\Q c H1
theorem XE {op:CmpOp}{t:TE}(h:PC X op a b t) (h1:behindInMarks op b=false:=by first | exact nobehind _ (by decide) (by decide) | rfl):PE X (.Compare a [op] [b] pos) t:=λpins s σ H Q I hw=>wpAny_Compare1 (h pins s σ H Q I hw) h1
theorem XF {e:Expr}{t:TE}(h:PE X e t) (he:∀whole,isTrue e X.env whole=(do let v <- whole;standAt e.pos;holding [v] (truthy v)):=by intro _;rfl):PT X e (tB t):=by intro pins s σ H Q I hw;refine isTrue_plain (thn (h pins s σ H _ I hw) λv s1 ⟨x,H1,I1,r1,q1⟩=>?_) (he _);obtain⟨d,rfl,q⟩:=q1;cases r1;exact wpAny_truthy_bool ⟨H1,I1,q⟩
variable {tA eF:TT}{rest:List Expr}
def aG (t u:TT):TT:=λσ H Q=>t σ H λc H1=>if c=true then u σ H1 Q else Q false H1
def tOr (t u:TT):TT:=λσ H Q=>t σ H λc H1=>if c=true then Q true H1 else u σ H1 Q
def aH (t:TT):TT:=λσ H Q=>t σ H λc H1=>Q (!c) H1
theorem pw_and1 (ha:PT X a tA):PW X (.BoolOp .And [a] pos) tA:=by
 intro wh pins s σ H Q I h;refine isTrue_and (thn (ha pins s σ H Q I h) λc s1 e=>?_);cases c with
 | true=>exact isTrue_and_nil e
 | false=>exact e
theorem pw_or1 (ha:PT X a tA):PW X (.BoolOp .Or [a] pos) tA:=by
 intro wh pins s σ H Q I h;refine isTrue_or (thn (ha pins s σ H Q I h) λc s1 e=>?_);cases c with
 | false=>exact isTrue_or_nil e
 | true=>exact e
theorem pw_and (ha:PT X a tA) (hb:PW X (.BoolOp .And (b::rest) pos) eF):PW X (.BoolOp .And (a::b::rest) pos) (aG tA eF):=by
 intro wh pins s σ H Q I h;refine isTrue_and (thn (ha pins s σ H _ I h) λc s1 ⟨H1,I1,q1⟩=>?_);cases c with
 | true=>exact hb wh pins s1 σ H1 Q I1 q1
 | false=>exact⟨H1,I1,q1⟩
theorem pw_or (ha:PT X a tA) (hb:PW X (.BoolOp .Or (b::rest) pos) eF):PW X (.BoolOp .Or (a::b::rest) pos) (tOr tA eF):=by
 intro wh pins s σ H Q I h;refine isTrue_or (thn (ha pins s σ H _ I h) λc s1 ⟨H1,I1,q1⟩=>?_);cases c with
 | true=>exact⟨H1,I1,q1⟩
 | false=>exact hb wh pins s1 σ H1 Q I1 q1
theorem XG (ha:PT X a tA):PT X (.UnaryOp .Not a pos) (aH tA):=by intro pins s σ H Q I h;exact isTrue_not (ha pins s σ H (λc H1=>Q (!c) H1) I h)
def WI (ta tb:TE):TE:=λσ H Q=>ta σ H λx H1=>∃c,x = .bl c/\if c=true then tb σ H1 Q else Q (.bl false) H1
def WJ (ta:TE):TE:=λσ H Q=>ta σ H λx H1=>∃c,x = .bl c/\Q (.bl (!c)) H1
theorem XH {op} {t:TE}(h:PE X a t):PE X (.BoolOp op [a] pos) t:=λpins s σ H Q I hw=>BoolOp_one (h pins s σ H Q I hw)
theorem XJ (ha:PE X a ta) (hb:PE X (.BoolOp .And (b::rest) pos) tb):PE X (.BoolOp .And (a::b::rest) pos) (WI ta tb):=by
 intro pins s σ H Q I h;refine BoolOp_and (thn (ha pins s σ H _ I h) λv s1 ⟨x,H1,I1,r1,q1⟩=>?_);obtain⟨c,rfl,q1⟩:=q1;cases r1;refine wpAny_truthy_bool ?_;cases c with
 | true=>exact hb pins s1 σ H1 Q I1 q1
 | false=>exact⟨.bl false,H1,I1,rfl,q1⟩
theorem XM (ha:PE X a ta):PE X (.UnaryOp .Not a pos) (WJ ta):=by intro pins s σ H Q I h;refine UnaryOp_ (thn (ha pins s σ H _ I h) λv s1 ⟨x,H1,I1,r1,q1⟩=>?_);obtain⟨c,rfl,q1⟩:=q1;cases r1;exact not_of (wpAny_truthy_bool ⟨.bl (!c),H1,I1,rfl,q1⟩)
def tIf (t:TT) (ta tb:TE):TE:=λσ H Q=>t σ H λc H1=>if c=true then ta σ H1 Q else tb σ H1 Q
theorem RG {c:Expr}(hc:PT X c tA) (ha:PE X a ta) (hb:PE X b tb):PE X (.IfExp c a b pos) (tIf tA ta tb):=by
 intro pins s σ H Q I h;refine wpAny_IfExp (thn (hc pins s σ H _ I h) λd s1 ⟨H1,I1,q1⟩=>?_);cases d with
 | true=>exact ha pins s1 σ H1 Q I1 q1
 | false=>exact hb pins s1 σ H1 Q I1 q1
end
def SqL (K:Frg) (H:Hp) (a:Addr) (xs:List V):Prop:=
 Rd H a (.lst xs) \/∃(o:Obj) (aa:Array Value) (n:Nat),K.lookup a=some o/\o.cls = .type "list" /\ o.dict=none/\o.data = .seq aa n/\aa.size<=sizeLine/\Vals xs aa.toList
def SqT (K:Frg) (H:Hp) (a:Addr) (xs:List V):Prop:=
 Rd H a (.tup xs) \/∃(o:Obj) (aa:Array Value) (n:Nat),K.lookup a=some o/\o.cls = .type "tuple" /\ o.data = .seq aa n/\aa.size<=sizeLine/\Vals xs aa.toList
def cQ:Value->Option V
 | .none=>some .non
 | .bool b=>some (.bl b)
 | .int i _=>some (.int i)
 | .str x _=>some (.str x)
 | .bytes b _=>some (.byt b)
 | .float b _=>some (.flt b)
 | .ref a=>some (.ref a)
 | .type n=>some (.ty n)
 | _=>none
theorem RelV.abs {x:V}{u:Value}(r:RelV x u):cQ u=some x:=by
 cases x with
 | non=>cases r;rfl
 | bl _=>cases r;rfl
 | int _=>obtain⟨t,rfl⟩:=r;rfl
 | str _=>obtain⟨t,rfl⟩:=r;rfl
 | byt _=>obtain⟨t,rfl⟩:=r;rfl
 | flt _=>obtain⟨t,rfl⟩:=r;rfl
 | ref _=>cases r;rfl
 | ty _=>cases r;rfl
theorem RelV.inj {x y:V}{u:Value}(r:RelV x u) (q:RelV y u):x=y:=Option.some.inj (r.abs.symm.trans q.abs)
theorem Vals.inj:∀{xs ys:List V}{us:List Value},Vals xs us->Vals ys us->xs=ys
 | _,_,_,.nil,.nil=>rfl
 | _,_,_,.cons r t,.cons r' t'=>by rw[r.inj r',Vals.inj t t']
section
variable {X:Cx}{pins:List (Addr×Obj)}{σ:St}{H:Hp}{s:Shared}{a:Addr}{xs ys:List V}
theorem SqL.of {K:Frg}(h:H a=some (.lst xs)):SqL K H a xs:=.inl (.inl h)
theorem Inv.list (I:Inv X pins σ H s) (h:SqL X.K H a xs):∃aa:List Value,Vals xs aa/\PlainL s.heap a aa.toArray/\xs.length<=sizeLine:=by
 rcases h with h | ⟨o,aa,n,hk,hc,hd,hs,hz,r⟩
 . obtain⟨z,aa,n,r,e⟩:=h.ok I.hok;exact⟨aa,r,⟨_,n,e,rfl,rfl,rfl⟩,z⟩
 . refine⟨aa.toList,r,⟨o,n,I.kIn a o hk,hc,hd,by simpa using hs⟩,?_⟩;have e:=r.length;simp only[Array.length_toList] at e;lia
theorem Inv.tuple (I:Inv X pins σ H s) (h:SqT X.K H a xs):∃aa:List Value,Vals xs aa/\IsTup s.heap a aa.toArray/\xs.length<=sizeLine:=by
 rcases h with h | ⟨o,aa,n,hk,hc,hs,hz,r⟩
 . obtain⟨z,aa,r,p⟩:=h.ok I.hok;exact⟨aa,r,p,z⟩
 . refine⟨aa.toList,r,⟨o,I.kIn a o hk,hc,n,by simpa using hs⟩,?_⟩;have e:=r.length;simp only[Array.length_toList] at e;lia
theorem Inv.list_inj (I:Inv X pins σ H s) (h:SqL X.K H a xs) (h':SqL X.K H a ys):xs=ys:=by
 obtain⟨aa,r,⟨o,n,e,_,_,d⟩,_⟩:=I.list h;obtain⟨its',r',⟨o',n',e',_,_,d'⟩,_⟩:=I.list h';rw[e] at e';cases e';rw[d] at d';injection d' with d1 _;have:aa=its':=by simpa using congrArg Array.toList d1
 subst this;exact r.inj r'
theorem Inv.tuple_inj (I:Inv X pins σ H s) (h:SqT X.K H a xs) (h':SqT X.K H a ys):xs=ys:=by
 obtain⟨aa,r,⟨o,e,_,n,d⟩,_⟩:=I.tuple h;obtain⟨its',r',⟨o',e',_,n',d'⟩,_⟩:=I.tuple h';rw[e] at e';cases e';rw[d] at d';injection d' with d1 _;have:aa=its':=by simpa using congrArg Array.toList d1
 subst this;exact r.inj r'
end
abbrev Cx.wish (X:Cx) (E:Value->Shared->Prop):Cx:={ X with xe:=E }
abbrev Cx.nox (X:Cx):Cx:=X.wish λ_ _=>False
theorem Cx.Ok.wish {X:Cx}(ok:X.Ok) (E:Value->Shared->Prop):(X.wish E).Ok:=⟨ok.mod,ok.kind,ok.glob,ok.blt,ok.above,ok.inj,ok.has,ok.cab,ok.hd,ok.frames,ok.stk,ok.exf,ok.bs,ok.bsz,ok.noex,ok.exfs,ok.funs,ok.frf⟩
theorem Cx.Ok.unwish {X:Cx}{E:Value->Shared->Prop}(ok:(X.wish E).Ok):X.Ok:=⟨ok.mod,ok.kind,ok.glob,ok.blt,ok.above,ok.inj,ok.has,ok.cab,ok.hd,ok.frames,ok.stk,ok.exf,ok.bs,ok.bsz,ok.noex,ok.exfs,ok.funs,ok.frf⟩
section
variable {X:Cx}{pins:List (Addr×Obj)}{σ:St}{H:Hp}{s:Shared}{E:Value->Shared->Prop}
theorem Inv.wish (I:Inv X pins σ H s) (E:Value->Shared->Prop):Inv (X.wish E) pins σ H s:=⟨I.ok.wish E,I.os,I.bare,I.base,I.loc,I.cell,I.free,I.freeC,I.pin,I.hok,I.len⟩
theorem Inv.unwish (I:Inv (X.wish E) pins σ H s):Inv X pins σ H s:=⟨I.ok.unwish,I.os,I.bare,I.base,I.loc,I.cell,I.free,I.freeC,I.pin,I.hok,I.len⟩
theorem SP.unwish {D:Ends}{f:Flow}{s':Shared}(h:SP (X.wish E) pins D f s'):SP X pins D f s':=by
 cases f with
 | next=>obtain⟨σ',H',I,q⟩:=h;exact⟨σ',H',I.unwish,q⟩
 | brk=>obtain⟨σ',H',I,q⟩:=h;exact⟨σ',H',I.unwish,q⟩
 | cont=>obtain⟨σ',H',I,q⟩:=h;exact⟨σ',H',I.unwish,q⟩
 | ret u=>obtain⟨v,σ',H',I,r,q⟩:=h;exact⟨v,σ',H',I.unwish,r,q⟩
theorem PSs.nox {st:List Stmt}{t:TS}(h:PSs X.nox st t):PSs X st t:=λpins s σ H D I hw=>
 wpAny_mono (h pins s σ H D (I.wish _) hw) (λ_ _ q=>q.unwish) λ_ _ z=>a6X z
end
section
variable {X:Cx}{st:Stmt}{rest:List Stmt}{t u:TS}{e:Expr}{te:TE}{pos:Pos}
def WK:TS:=λD σ H=>D.nx σ H
def aI (t u:TS):TS:=λD σ H=>t { D with nx:=u D } σ H
theorem UF:PSs X [] WK:=λ_ _ σ H _ I h=>wpAny_execs_nil ⟨σ,H,I,h⟩
theorem LZ (h1:PS X st t) (h2:PSs X rest u):PSs X (st::rest) (aI t u):=by
 intro pins s σ H D I h;refine wpAny_execs_cons (thn (h1 pins s σ H { D with nx:=u D } I h) λf s1 q=>?_);cases f with
 | next=> obtain⟨σ',H',I',q⟩:=q;exact h2 pins s1 σ' H' D I' q
 | ret v=>exact q
 | brk=>exact q
 | cont=>exact q
theorem OM (h1:PS X st t):PSs X [st] t:=by
 intro pins s σ H D I h;refine wpAny_execs_cons (thn (h1 pins s σ H D I h) λf s1 q=>?_);cases f with
 | next=>exact wpAny_execs_nil q
 | ret v=>exact q
 | brk=>exact q
 | cont=>exact q
theorem Inv.quiet {pins:List (Addr×Obj)}{σ:St}{H:Hp}{s:Shared}(I:Inv X pins σ H s):interactive X.env=false:=by simp[interactive,I.ok.kind]
def WL (te:TE):TS:=λD σ H=>te σ H λ_ H1=>D.nx σ H1
theorem UG (he:PE X e te) (hs:swapsWith e none pos.line X.env=pure false:=by rfl):PS X (.Expr e pos) (WL te):=by intro pins s σ H D I h;exact wpAny_Expr_any (thn (he pins s σ H _ I h) λv s1 ⟨x,H1,I1,r1,q1⟩=>⟨σ,H1,I1,q1⟩) I.quiet hs
def aJ (te:TE):TS:=λD σ H=>te σ H D.rt
theorem XN (he:PE X e te):PS X (.Return (some e) pos) (aJ te):=by intro pins s σ H D I h;exact wpAny_Return_some (thn (he pins s σ H _ I h) λv s1 ⟨x,H1,I1,r1,q1⟩=>⟨x,σ,H1,I1,r1,q1⟩)
def aK (c:TT) (t u:TS):TS:=λD σ H=>c σ H λb H1=>if b=true then t D σ H1 else u D σ H1
theorem aL {c:Expr}{a b:List Stmt}{tc:TT}(hc:PT X c tc) (ha:PSs X a t) (hb:PSs X b u):PS X (.If c a b pos) (aK tc t u):=by
 intro pins s σ H D I h;refine wpAny_If (thn (hc pins s σ H _ I h) λd s1 ⟨H1,I1,q1⟩=>?_);cases d with
 | true=>exact ha pins s1 σ H1 D I1 q1
 | false=>exact hb pins s1 σ H1 D I1 q1
end
abbrev TG:=V->St->Hp->(St->Hp->Prop)->Prop
abbrev TGs:=List V->St->Hp->(St->Hp->Prop)->Prop
def PG (X:Cx) (target:Expr) (t:TG):Prop:=∀(pins:List (Addr×Obj)) (s:Shared) (σ:St) (H:Hp) (v:V) (u:Value) (Q:St->Hp->Prop),Inv X pins σ H s->RelV v u->t v σ H Q ->
   wpAny (model X.prog X.w) X.A (assign target X.env u) (λ_ s'=>∃σ' H',Inv X pins σ' H' s'/\Q σ' H') X.xe s
def PGs (X:Cx) (ts:List Expr) (t:TGs):Prop:=∀(pins:List (Addr×Obj)) (s:Shared) (σ:St) (H:Hp) (vs:List V) (us:List Value) (Q:St->Hp->Prop),Inv X pins σ H s->Vals vs us->t vs σ H Q ->
   wpAny (model X.prog X.w) X.A (assignInOrder ((assignEach ts X.env).map (·.2)) us) (λ_ s'=>∃σ' H',Inv X pins σ' H' s'/\Q σ' H') X.xe s
abbrev XO:=V->V->V->Hp->(Hp->Prop)->Prop
def aM (X:Cx) (t:XO):Prop:=∀(pins:List (Addr×Obj)) (s:Shared) (σ:St) (H:Hp) (o i v:V) (ov iv u:Value) (Q:Hp->Prop),Inv X pins σ H s->RelV o ov->RelV i iv->RelV v u->t o i v H Q ->
   wpAny (model X.prog X.w) X.A (setItem ov iv u) (λ_ s'=>∃H',Inv X pins σ H' s'/\Q H') X.xe s
section
variable {X:Cx}{pos:Pos}
def JV (i:Nat):TG:=λv σ H Q=>Q (σ.set i (some v)) H
theorem UH {i:Nat}{x:Str}(hN:X.N.Nodup) (hi:X.N[i]?=some x) (hx:Loc X.env.scope x) (hf:X.fn x=true\/X.env.scope.names.lookup x=some .local:=by first | exact .inl rfl | exact .inr rfl | assumption):PG X (.Name x pos) (JV i):=by intro pins s σ H v u Q I r h;exact wpAny_assign_Name (FX I hN hi hx r (λs' I'=>⟨_,H,I',h⟩) hf)
def aN:TGs:=λvs σ H Q=>vs=[]/\Q σ H
def RH (t:TG) (u:TGs):TGs:=λvs σ H Q=>∃v r,vs=v::r/\t v σ H λσ' H'=>u r σ' H' Q
theorem UI:PGs X [] aN:=by intro pins s σ H vs us Q I r h;obtain⟨e,h⟩:=h;subst e;cases r;exact assignInOrder_nil ⟨σ,H,I,h⟩
theorem RI {e:Expr}{es:List Expr}{t:TG}{u:TGs}(h1:PG X e t) (h2:PGs X es u) (hs:(assignEach (e::es) X.env).map (·.2)=assign e X.env::(assignEach es X.env).map (·.2):=by rfl):PGs X (e::es) (RH t u):=by
 intro pins s σ H vs us Q I r h;obtain⟨v,vr,e1,h⟩:=h;subst e1;cases r with
 | cons r rr=> rw[hs];refine assignInOrder_cons (thn (h1 pins s σ H _ _ _ I r h) λ_ s1 ⟨σ1,H1,I1,q1⟩=>?_);exact h2 pins s1 σ1 H1 _ _ Q I1 rr q1
def cR (K:Frg) (n:Nat) (t:TGs):TG:=λv σ H Q=>∃a xs,v = .ref a/\SqT K H a xs/\xs.length=n/\t xs σ H Q
theorem XQ {es:List Expr}{k:Nat}{t:TGs}{n:Nat}(hc:X.calm=true) (h:PGs X es t) (hn:(assignEach es X.env).length=n:=by rfl) (ci:(assignEach es X.env).findIdx? (·.1)=none:=by rfl):PG X (.Tuple es k pos) (cR X.K n t):=by intro pins s σ H v u Q I r hw;obtain⟨a,xs,e1,hq,hl,hw⟩:=hw;subst e1;cases r;obtain⟨aa,rv,ht,hz⟩:=I.tuple hq;refine assign_Tuple_tuple (I.ok.hd hc) ht (by simp[hn,<-hl,rv.length]) ci λh' hx=>?_;have I1:Inv X pins σ H { s with heap:=h' }:=I.kept (t':=s.toks) λb o e=>hx b o (zC (zM e)) e;exact h pins _ σ H xs _ Q I1 (by simpa using rv) hw
def aO (to ti:TE) (t:XO):TG:=λv σ H Q=>to σ H λo H1=>ti σ H1 λi H2=>t o i v H2 λH3=>Q σ H3
theorem XR {o i:Expr}{to ti:TE}{t:XO}(ho:PE X o to) (hi:PE X i ti) (hs:aM X t) (ha:∀v,assign (.Subscript o i pos) X.env v=(do
     let ov <- holding [v] (eval o X.env);let iv <- holding [v,ov] (eval i X.env)
     standAt pos
     holding [v,ov,iv] (setItem ov iv v)
     release [v,ov,iv] []):=by intro _;rfl):PG X (.Subscript o i pos) (aO to ti t):=by intro pins s σ H v u Q I r h;rw[ha];refine zZ (wpAny_holding (thn (ho pins s σ H _ I h) λov s1 ⟨x,H1,I1,r1,q1⟩=>?_));refine zZ (wpAny_holding (thn (hi pins s1 σ H1 _ I1 q1) λiv s2 ⟨y,H2,I2,r2,q2⟩=>?_));refine zZ (wpAny_standAt (zZ (wpAny_holding (thn (hs pins s2 σ H2 x y v ov iv u _ I2 r1 r2 r q2) λ_ s3 ⟨H3,I3,q3⟩=>?_))));exact wpAny_release ⟨σ,H3,I3,q3⟩
def UJ (te:TE) (g:TG):TS:=λD σ H=>te σ H λx H1=>g x σ H1 D.nx
theorem NJ {tg e:Expr}{te:TE}{g:TG}(he:PE X e te) (hg:PG X tg g) (hs:swapsWithSole [tg] e pos.line X.env=pure false:=by rfl) (hw:swappedStores [tg] e X.env=pure none:=by rfl)
   (h1:(assignEach [tg] X.env).map (·.2)=[assign tg X.env]:=by rfl):PS X (.Assign [tg] e pos) (UJ te g):=by intro pins s σ H D I h;refine wpAny_Assign_stores (thn (he pins s σ H _ I h) λv s1 ⟨x,H1,I1,r1,q1⟩=>?_) hs hw;rw[h1];exact thn (hg pins s1 σ H1 x v _ I1 r1 q1) λ_ s2 q=>q
theorem XS {i:Nat}{x:Str}{e:Expr}{te:TE}{pos':Pos}(hN:X.N.Nodup) (hi:X.N[i]?=some x) (hx:Loc X.env.scope x) (he:PE X e te) (hs:swapsWith e (some (.Name x pos')) pos.line X.env=pure false:=by rfl) (hf:X.fn x=true\/X.env.scope.names.lookup x=some .local:=by first | exact .inl rfl | exact .inr rfl | assumption) :
   PS X (.Assign [.Name x pos'] e pos) (UJ te (JV i)):=by intro pins s σ H D I h;refine wpAny_Assign_Name (thn (he pins s σ H _ I h) λv s1 ⟨y,H1,I1,r1,q1⟩=>?_) hs;exact FX I1 hN hi hx r1 (λs2 I2=>⟨_,H1,I2,q1⟩) hf
def aP (i j:Nat) (ta:TA):TS:=λD σ H=>ta σ H λvs H1=>∃v w,vs=[v,w]/\D.nx ((σ.set i (some v)).set j (some w)) H1
theorem XT {i j:Nat}{x y:Str}{a b:Expr}{ta:TA}{px py pt:Pos}{kt k2 pt2} (hc:X.calm=true) (hN:X.N.Nodup) (hi:X.N[i]?=some x) (hj:X.N[j]?=some y) (dY:i≠j) (hx:X.env.scope.names.lookup x=some .local) (hy:X.env.scope.names.lookup y=some .local) (ha:PA X [a,b] ta) (hw:swappedStores [.Tuple [.Name x px,.Name y py] kt pt] (.Tuple [a,b] k2 pt2) X.env=pure (some [x,y])) (hs:swapsWithSole [.Tuple [.Name x px,.Name y py] kt pt] (.Tuple [a,b] k2 pt2) pos.line X.env=pure false:=by rfl) :
   PS X (.Assign [.Tuple [.Name x px,.Name y py] kt pt] (.Tuple [a,b] k2 pt2) pos) (aP i j ta):=by
 intro pins s σ H D I h;rw[exec_Assign_arm];refine zZ (wpAny_standAt ?_);rw[hs];refine zZ (zY ?_);rw[if_neg (by decide)];refine zZ (Tuple_ (thn (ha _ pins s σ H _ I h) λus s1 ⟨vs,H1,I1,r1,q1⟩=>?_));obtain⟨v,w,e1,q1⟩:=q1;subst e1;obtain⟨u1,u2,rfl,rv,cv⟩:∃u1 u2,us=[u1,u2]/\RelV v u1/\RelV w u2:=by
   cases r1 with
   | cons p q=>
     cases q with
     | cons p' q'=> cases q';exact⟨_,_,rfl,p,p'⟩
 refine xN ?_ (by show 2<=sizeLine;decide);have I2:Inv X pins σ H1 { s1 with heap:=s1.heap.push { cls:=.type "tuple", data:=.seq [u1,u2].toArray } }:=I1.kept (t':=s1.toks) λb o e=>zW _ e;rw[hw];refine zZ (zY ?_);show wpAny (model X.prog X.w) X.A (do rule "assign.swapped-stores";let items <- unpackItems (.ref s1.heap.objs.size) 2 none;assignInOrder [λv=>bindName X.env y v,λv=>bindName X.env x v] items.reverse;pure Flow.next) _ _ _;refine zZ (wpAny_rule (zZ (unpackItems_tuple (items:=#[u1,u2]) (I.ok.hd hc) (IsTup.new s1.heap _) λh' gQ=>?_)));have I3:=I2.kept (h':=h') (t':=s1.toks) λb o e=>gQ b o (zC (zM e)) e;show wpAny _ _ (assignInOrder [λv=>bindName X.env y v,λv=>bindName X.env x v] [u2,u1] >>= λ_=>pure Flow.next) _ _ _;refine zZ (assignInOrder_cons (wpAny_bindName (FX I3 hN hj (.inl hy) cv (λs2 I4=>?_) (.inr hy))));refine assignInOrder_cons (wpAny_bindName (FX I4 hN hi (.inl hx) rv (λs3 I5=>assignInOrder_nil (zY ?_)) (.inr hx)));rw[List.set_comm _ _ (a5J dY)] at I5;exact⟨_,H1,I5,q1⟩
end
structure It where
 go:Nat->Hp->Prop
 yld:Nat->Hp->V->Hp->Prop
 stop:Nat->Hp->Prop
def JF (X:Cx) (pins:List (Addr×Obj)) (H:Hp) (b:Addr):Prop:=
 H b=none/\b≠X.env.locals/\b∉X.fs/\(b∈X.ex\/X.s₀.heap.objs.size<=b)/\(∀x c,X.env.cells.lookup x=some c->c≠b)/\∀p∈X.pn++pins,p.1≠b
theorem Inv.fpOk {X:Cx}{pins:List (Addr×Obj)}{σ:St}{H H':Hp}{s:Shared}{b:Addr}(I:Inv X pins σ H s) (hb:s.heap.objs.size<=b) (hn:H' b=none):JF X pins H' b:=by
 refine⟨hn,Nat.ne_of_gt (zP I.lt hb),I.nofs hb,.inr (zN I.sz hb),λx c e z=>?_,λp hp z=>?_⟩;. obtain⟨v,q⟩:=I.cell x c e;exact absurd (zP q.lt (by rw[z];exact hb)) (yG _)
 . exact absurd (zP (zM (I.pin p hp).1) (by rw[z];exact hb)) (yG _)
structure Turn (P:Program) (w:World) (K:Frg) (tg:Expr) (J:It) (fp:List Addr) (it:Addr) (tn:Nat->Heap->Prop):Prop where
 mem:it∈fp
 obj:∀i h,tn i h->∀b∈fp,∃o,h.get? b=some o/\∀v,o.data≠.cell v
 keep:∀i h h',tn i h->(∀b∈fp,∀o,h.get? b=some o->h'.get? b=some o)->tn i h'
 item:∀(X:Cx),X.prog=P->X.w=w->X.K=K->X.calm=true->∀(i:Nat) (pins:List (Addr×Obj)) (s:Shared) (σ:St) (H:Hp) (E:Value->Shared->Prop),Inv X pins σ H s->(∀b∈fp,JF X pins H b)->tn i s.heap->J.go i H ->
   wpAny (model P w) X.A (pyNext (.ref it)) (λr s1=>∃u,r=some u /\
     wpAny (model P w) X.A (letOwnedTupleGo tg (.ref it) u) (λ_ s2=>∃x H',Inv X pins σ H' s2/\RelV x u/\J.yld i H x H'/\tn (i+1) s2.heap/\∀b∈fp,H' b=none) E s1) E s
 done:∀(X:Cx),X.prog=P->X.w=w->X.K=K->X.calm=true->∀(i:Nat) (pins:List (Addr×Obj)) (s:Shared) (σ:St) (H:Hp) (E:Value->Shared->Prop),Inv X pins σ H s->(∀b∈fp,JF X pins H b)->tn i s.heap->J.stop i H ->
   wpAny (model P w) X.A (pyNext (.ref it)) (λr s1=>r=none/\Inv X pins σ H s1) E s
 self:∀(A:Around) (i:Nat) (s:Shared) (Q:Value->Shared->Prop) (E:Value->Shared->Prop),tn i s.heap->Q (.ref it) s->wpAny (model P w) A (pyIter (.ref it)) Q E s
abbrev TI:=St->Hp->(It->Hp->Prop)->Prop
def PIE (X:Cx) (pins:List (Addr×Obj)) (σ:St) (tg:Expr) (R:It->Hp->Prop) (gR:Value) (s2:Shared):Prop:=∃(it:Addr) (fp:List Addr) (tn:Nat->Heap->Prop) (J:It) (H':Hp),gR = .ref it/\Inv X pins σ H' s2/\Turn X.prog X.w X.K tg J fp it tn/\tn 0 s2.heap/\(∀b∈fp,JF X pins H' b)/\R J H'
def PI (X:Cx) (tg iter:Expr) (wi:TI):Prop:=∀(pins:List (Addr×Obj)) (s:Shared) (σ:St) (H:Hp) (R:It->Hp->Prop),Inv X pins σ H s->wi σ H R ->
   wpAny (model X.prog X.w) X.A (eval iter X.env) (λv s1=>wpAny (model X.prog X.w) X.A (pyIter v) (PIE X pins σ tg R) X.xe s1) X.xe s
theorem OO {M:Model}{A:Around}{E:Value->Shared->Prop}{s:Shared}{tg:Expr}{it:Addr}{u:Value}{o:Obj}{n:String}{vs:Array Value}{Q:Unit->Shared->Prop}(ho:s.heap.get? it=some o) (hc:o.cls = .type n) (hd:o.data = .fields vs) (hn:["enumerate", "zip", "dict_itemiterator", "dict_reverseitemiterator", "odict_iterator", "itertools.zip_longest", "itertools.pairwise"].contains n=false) (hQ:Q () s):wpAny M A (letOwnedTupleGo tg (.ref it) u) Q E s:=by
 unfold letOwnedTupleGo;cases tg <;> first
   | exact zY hQ
   | (cases u <;> first
       | exact zY hQ
       | (refine zZ (wpAny_load ho ?_)
          rw[hc,hd];show wpAny M A (if (["enumerate", "zip", "dict_itemiterator", "dict_reverseitemiterator", "odict_iterator", "itertools.zip_longest", "itertools.pairwise"].contains n&&vs[0]?==some (rawInt _))=true then _ else _) Q E s;rw[if_neg (by intro h;rw[hn,Bool.false_and] at h;cases h)];exact zY hQ))
def Itl (K:Frg) (a:Addr):It:=⟨λi H=>∃xs x,SqL K H a xs/\xs[i]?=some x,λi H x H'=>H'=H/\∀xs,SqL K H a xs->xs[i]?=some x,λi H=>∃xs,SqL K H a xs/\xs.length<=i⟩
def Itt (K:Frg) (a:Addr):It:=⟨λi H=>∃xs x,SqT K H a xs/\xs[i]?=some x,λi H x H'=>H'=H/\∀xs,SqT K H a xs->xs[i]?=some x,λi H=>∃xs,SqT K H a xs/\xs.length<=i⟩
def Itr (lo:Int) (n:Nat):It:=⟨λi _=>i < n,λi H x H'=>H'=H/\x = .int (lo+i),λi _=>n<=i⟩
theorem PV {P:Program}{w:World}{K:Frg}{tg:Expr}(a it:Addr):Turn P w K tg (Itl K a) [it] it (λi h=>h.IsListIter it a i) where
 mem:=by simp
 obj:=λi h st b hb=>by
   have e:b=it:=by simpa using hb
   subst e;obtain⟨o,e,c,d⟩:=st;exact⟨o,e,λv z=>by rw[d] at z;cases z⟩
 keep:=λi h h' st k=>st.at λo e=>k it (by simp) o e
 item:=by intro X hP hw hK hc i pins s σ H E I hf st hg;subst hP hw hK;obtain⟨xs,x,hq,hx⟩:=hg;obtain⟨aa,rv,p,hz⟩:=I.list hq;obtain⟨u,hu,ru⟩:=rv.get hx;obtain⟨f0,f1,f2,f3,f4,f5⟩:=hf it (by simp);refine wpAny_pyNext_list_item st p.isList (x:=u) (by simpa using hu) λh' cg sb=>?_;have I1:Inv X pins σ H { s with heap:=h' }:=I.turned (t':=s.toks) (λb o hb e=>(sb.2 b hb).trans e) f0 f1 f3 f4 f5;obtain⟨o,e,c,d⟩:=id cg;exact⟨u,rfl,OO (s:={ s with heap:=h' }) e c d (by decide) ⟨x,H,I1,ru,⟨rfl,λys hy=>by rw[I.list_inj hy hq];exact hx⟩,cg,λb hb=>(hf b hb).1⟩⟩
 done:=by intro X hP hw hK hc i pins s σ H E I hf st hg;subst hP hw hK;obtain⟨xs,hq,hx⟩:=hg;obtain⟨aa,rv,p,hz⟩:=I.list hq;obtain⟨f0,f1,f2,f3,f4,f5⟩:=hf it (by simp);have hl:=rv.length;exact wpAny_pyNext_list_end (I.ok.hd hc) st p.isList (by simp;lia) λh' eb=>⟨rfl,I.turned (t':=s.toks) (λb o hb e=>eb b o hb e) f0 f1 f3 f4 f5⟩
 self:=λ_ _ _ _ _ st h=>wpAny_pyIter_listiter st h
theorem NK {P:Program}{w:World}{K:Frg}{tg:Expr}(a it:Addr):Turn P w K tg (Itt K a) [it] it (λi h=>h.IsTupleIter it a i) where
 mem:=by simp
 obj:=λi h st b hb=>by
   have e:b=it:=by simpa using hb
   subst e;obtain⟨o,e,c,d⟩:=st;exact⟨o,e,λv z=>by rw[d] at z;cases z⟩
 keep:=λi h h' st k=>st.at λo e=>k it (by simp) o e
 item:=by intro X hP hw hK hc i pins s σ H E I hf st hg;subst hP hw hK;obtain⟨xs,x,hq,hx⟩:=hg;obtain⟨aa,rv,p,hz⟩:=I.tuple hq;obtain⟨u,hu,ru⟩:=rv.get hx;obtain⟨f0,f1,f2,f3,f4,f5⟩:=hf it (by simp);refine wpAny_pyNext_tuple_item st (show s.heap.IsTuple a aa.toArray from p) (x:=u) (by simpa using hu) λh' cg sb=>?_;have I1:Inv X pins σ H { s with heap:=h' }:=I.turned (t':=s.toks) (λb o hb e=>(sb.2 b hb).trans e) f0 f1 f3 f4 f5;obtain⟨o,e,c,d⟩:=id cg;exact⟨u,rfl,OO (s:={ s with heap:=h' }) e c d (by decide) ⟨x,H,I1,ru,⟨rfl,λys hy=>by rw[I.tuple_inj hy hq];exact hx⟩,cg,λb hb=>(hf b hb).1⟩⟩
 done:=by intro X hP hw hK hc i pins s σ H E I hf st hg;subst hP hw hK;obtain⟨xs,hq,hx⟩:=hg;obtain⟨aa,rv,p,hz⟩:=I.tuple hq;obtain⟨f0,f1,f2,f3,f4,f5⟩:=hf it (by simp);have hl:=rv.length;exact wpAny_pyNext_tuple_end (I.ok.hd hc) st (show s.heap.IsTuple a aa.toArray from p) (by simp;lia) λh' eb=>⟨rfl,I.turned (t':=s.toks) (λb o hb e=>eb b o hb e) f0 f1 f3 f4 f5⟩
 self:=λ_ _ _ _ _ st h=>wpAny_pyIter_tupleiter st h
theorem NL {P:Program}{w:World}{K:Frg}{tg:Expr}(it:Addr) (lo:Int) (n:Nat):Turn P w K tg (Itr lo n) [it] it (λi h=>IsRangeIter h it (lo+(i:Nat)*1) ((n:Int) - (i:Nat)) 1) where
 mem:=by simp
 obj:=λi h st b hb=>by
   have e:b=it:=by simpa using hb
   subst e;exact⟨_,st,λv z=>by have z':Data.fields _=Data.cell v:=z;cases z'⟩
 keep:=λi h h' st k=>k it (by simp) _ st
 item:=by intro X hP hw hK hc i pins s σ H E I hf st hg;subst hP hw hK;obtain⟨f0,f1,f2,f3,f4,f5⟩:=hf it (by simp);have W:=Walks.range (prog:=X.prog) (w:=X.w) (I.ok.hd hc) it lo 1 n;refine W.item i s _ _ hg st λv h' tk hv cg kk=>?_;obtain⟨t,rfl⟩:=hv;have I1:Inv X pins σ H { s with heap:=h',toks:=tk }:=I.turned (λb o hb e=>kk b o (by simpa using hb) e) f0 f1 f3 f4 f5;refine⟨_,rfl,OO (s:={ s with heap:=h',toks:=tk }) (n:= "range_iterator") cg rfl rfl (by decide) ⟨.int (lo+i),H,I1,⟨t,?_⟩,⟨rfl,rfl⟩,cg,λb hb=>(hf b hb).1⟩⟩;rw[Int.mul_one]
 done:=by intro X hP hw hK hc i pins s σ H E I hf st hg;subst hP hw hK;obtain⟨f0,f1,f2,f3,f4,f5⟩:=hf it (by simp);exact wpAny_pyNext_range_end (I.ok.hd hc) st (by have:n<=i:=hg;lia) λh' eb=>⟨rfl,I.turned (t':=s.toks) (λb o hb e=>eb b o hb e) f0 f1 f3 f4 f5⟩
 self:=λ_ _ _ _ _ st h=>wpAny_pyIter_rangeiter st h
section
variable {X:Cx}{tg:Expr}
theorem RJ {pins:List (Addr×Obj)}{σ:St}{H:Hp}{s:Shared}{R:It->Hp->Prop}{E:Value->Shared->Prop}{lo hi:Int}{t u v:Tok}{tk:Nat}(I:Inv X pins σ H s) (h1 : -(2 ^ 62)<=lo) (h2:lo < 2 ^ 62) (h3 : -(2 ^ 62)<=hi) (h4:hi < 2 ^ 62) (q:R (Itr lo (hi - lo).toNat) H):wpAny (model X.prog X.w) X.A (pyIter (.ref s.heap.objs.size)) (PIE X pins σ tg R) E { s with heap:=s.heap.push { cls:=.type "range", data:=.fields #[.int lo t,.int hi u,.int 1 v] },toks:=tk }:=by
 refine wpAny_pyIter_range (IsRange.new ..) (small_one h1 h2 h3 h4) ?_;have I1:Inv X pins σ H { s with heap:=s.heap.push { cls:=.type "range", data:=.fields #[.int lo t,.int hi u,.int 1 v] },toks:=tk }:=I.kept λb o e=>zW _ e;refine⟨(s.heap.push { cls:=.type "range", data:=.fields #[.int lo t,.int hi u,.int 1 v] }).objs.size,[(s.heap.push { cls:=.type "range", data:=.fields #[.int lo t,.int hi u,.int 1 v] }).objs.size],_,_,H,rfl,
   I1.kept (t':=tk) λb o e=>zW _ e,NL _ lo (hi - lo).toNat,?_,λb hb=>?_,q⟩
 . have e1:lo+((0:Nat):Int)*1=lo:=by simp
   have e2:(((hi - lo).toNat:Nat):Int) - ((0:Nat):Int)=Builtin.Range.rangeSize lo hi 1:=by rw[rangeSize_one];split <;> lia
   show IsRangeIter _ _ (lo+((0:Nat):Int)*1) ((((hi - lo).toNat:Nat):Int) - ((0:Nat):Int)) 1;rw[e1,e2];exact yZ _ rfl
 . have e:b=(s.heap.push { cls:=.type "range", data:=.fields #[.int lo t,.int hi u,.int 1 v] }).objs.size:=by simpa using hb
   subst e;exact I1.fpOk (zR _) (I1.hok.fresh (zR _))
def WM (ta:TA):TI:=λσ H R=>ta σ H λvs H1=>∃j:Int,vs=[.int j]/\-(2 ^ 62)<=j/\j < 2 ^ 62/\R (Itr 0 j.toNat) H1
theorem PX {a:Expr}{ta:TA}{p pos:Pos}(hg:Gl X "range") (hm:X.mg "range"=none) (ha:PA X [a] ta) (hs:starEach [a] X.env=[(false,eval a X.env)]:=by rfl):PI X tg (.Call (.Name "range" p) [a] [] pos) (WM ta):=by
 intro pins s σ H R I h;refine Call_ (KG I hg hm boot_range (PyProof.Rows.callWith_type1 (thn (ha pos pins s σ H _ I h) λus s1 ⟨vs,H1,I1,r1,q1⟩=>?_) hs rfl));obtain⟨j,e,q1,q2,q⟩:=q1;subst e;cases r1 with
 | cons r rr=> cases rr;obtain⟨t,rfl⟩:=r;exact call_range_1 (RJ I1 (by lia) (by lia) q1 q2 (by simpa using q))
def aQ (wi:TI) (g:TG) (tb:TS):TS:=λD σ H=>wi σ H λJ H1=>∃W:Nat->Nat->St->Hp->Prop,(∃m,W 0 m σ H1)/\∀i m σ H,W i m σ H ->(J.stop i H/\D.nx σ H)\/(J.go i H/\∃N:St->Hp->Prop,(∀σ' H',N σ' H'->∃m',m' < m/\W (i+1) m' σ' H')/\∀x H',J.yld i H x H'->g x σ H' λσ2 H2=>tb { D with nx:=N,ct:=N,bk:=D.nx } σ2 H2)
def IB (fp:List Addr) (h:Heap):List (Addr×Obj):=fp.filterMap λb=>(h.get? b).map λo=>(b,o)
theorem E4 {fp:List Addr}{h:Heap}{b:Addr}{o:Obj}(hb:b∈fp) (e:h.get? b=some o):(b,o)∈IB fp h:=List.mem_filterMap.mpr ⟨b,hb,by rw[e];rfl⟩
theorem PY {fp:List Addr}{h:Heap}{p:Addr×Obj}(hp:p∈IB fp h):p.1∈fp/\h.get? p.1=some p.2:=by
 obtain⟨b,hb,e⟩:=List.mem_filterMap.mp hp;cases q:h.get? b with
 | none=>rw[q] at e;cases e
 | some o=> rw[q] at e;have e':(b,o)=p:=Option.some.inj e;subst e';exact⟨hb,q⟩
theorem Inv.pinned {pins:List (Addr×Obj)}{σ:St}{H:Hp}{s:Shared}{fp:List Addr}(I:Inv X pins σ H s) (hf:∀b∈fp,JF X pins H b) (ho:∀b∈fp,∃o,s.heap.get? b=some o/\∀v,o.data≠.cell v):Inv X (pins++IB fp s.heap) σ H s:=
 I.pins_of λp hp=>(yW.mp hp).elim (λz=>I.pin p (zB _ z)) λz=>by obtain⟨hb,e⟩:=PY z;obtain⟨f0,f1,f2,_⟩:=hf p.1 hb;obtain⟨o,e',d⟩:=ho p.1 hb;rw[e] at e';cases e';exact⟨e,f0,f1,f2,d⟩
theorem Inv.unpinned {pins pl:List (Addr×Obj)}{σ:St}{H:Hp}{s:Shared}(I:Inv X (pins++pl) σ H s):Inv X pins σ H s:=I.pins_of λp hp=>I.pin p (zB _ (List.mem_append_left _ hp))
theorem XU {iter:Expr}{body:List Stmt}{wi:TI}{g:TG}{tb:TS}{pos:Pos}(hp:PassesOwn (model X.prog X.w) X.A X.env X.xe) (hc:X.calm=true) (hi:PI X tg iter wi) (hg:PG X tg g) (hb:PSs X body tb) (hs:∀x,foldedSetIterable iter X.env x=pure x:=by intro _;rfl):PS X (.For tg iter body [] pos) (aQ wi g tb):=by
 intro pins s σ H D I h;refine wpAny_For (thn (hi pins s σ H _ I h) λv s1 h1=>thn h1 λgR s2 h2=>?_) hs;obtain⟨it,fp,tn,J,H2,e,I2,T,e6,f2,W,⟨m0,w0⟩,turn⟩:=h2;subst e;have stat:∀{H':Hp},(∀b∈fp,H' b=none)->∀b∈fp,JF X pins H' b:=λhn b hb=>⟨hn b hb,(f2 b hb).2⟩
 refine codeAny_forLoop_any (λn s'=>∃i σ' H',Inv X pins σ' H' s'/\tn i s'.heap/\(∀b∈fp,H' b=none)/\W i n σ' H') ?_ m0 ⟨0,σ,H2,I2,e6,λb hb=>(f2 b hb).1,w0⟩;rintro n s3 ⟨i,σ3,H3,I3,eG,i6,w3⟩;rcases turn i n σ3 H3 w3 with ⟨stop,qn⟩ | ⟨go,N,hN,step⟩
 . refine wpAny_passesOwn hp (thn (T.done X rfl rfl rfl hc i pins s3 σ3 H3 X.xe I3 (stat i6) eG stop) λr s4 ⟨hr,I4⟩=>?_);subst hr;exact wpAny_execs_nil ⟨σ3,H3,I4,qn⟩
 . refine wpAny_passesOwn hp (thn (T.item X rfl rfl rfl hc i pins s3 σ3 H3 X.xe I3 (stat i6) eG go) λr s4 ⟨u,hr,h4⟩=>?_);subst hr;refine wpAny_passesOwn hp (thn h4 λ_ s5 ⟨x,H5,I5,r5,y5,eI,gz⟩=>?_);have j0:=I5.pinned (stat gz) (T.obj _ _ eI);refine wpAny_passesOwn hp (thn (hg _ s5 σ3 H5 x u _ j0 r5 (step x H5 y5)) λ_ s6 ⟨σ6,H6,I6,q6⟩=>?_);refine wpAny_passesOwn hp (thn (hb _ s6 σ6 H6 _ I6 q6) λf s7 q7=>?_);have again:∀{σ7:St}{H7:Hp},Inv X (pins++IB fp s5.heap) σ7 H7 s7->N σ7 H7->∃m,m < n/\∃i σ' H',Inv X pins σ' H' s7/\tn i s7.heap/\(∀b∈fp,H' b=none)/\W i m σ' H':=λ{σ7 H7} I7 n7=>by obtain⟨m',hm,w7⟩:=hN σ7 H7 n7;refine⟨m',hm,i+1,σ7,H7,I7.unpinned,T.keep _ _ _ eI λb hb o e=>(I7.pin (b,o) (zB _ (zB _ (E4 hb e)))).1,λb hb=>?_,w7⟩;obtain⟨o,e,d⟩:=T.obj _ _ eI b hb;exact(I7.pin (b,o) (zB _ (zB _ (E4 hb e)))).2.1
   cases f with
   | next=>obtain⟨σ7,H7,I7,n7⟩:=q7;exact again I7 n7
   | cont=>obtain⟨σ7,H7,I7,n7⟩:=q7;exact again I7 n7
   | brk=>obtain⟨σ7,H7,I7,q7⟩:=q7;exact⟨σ7,H7,I7.unpinned,q7⟩
   | ret v=>obtain⟨x7,σ7,H7,I7,r7,q7⟩:=q7;exact⟨x7,σ7,H7,I7.unpinned,r7,q7⟩
end
abbrev R2:=V->V->Hp->VK->Prop
def OpR (X:Cx) (f:Value->Value->Sem Value) (r:R2):Prop:=∀(pins:List (Addr×Obj)) (s:Shared) (σ:St) (H:Hp) (x y:V) (v u:Value) (Q:VK),Inv X pins σ H s->RelV x v->RelV y u->r x y H Q ->
   wpAny (model X.prog X.w) X.A (f v u) (EP X pins σ Q) X.xe s
def UnR (X:Cx) (f:Value->Sem Value) (r:V->Hp->VK->Prop):Prop:=∀(pins:List (Addr×Obj)) (s:Shared) (σ:St) (H:Hp) (x:V) (v:Value) (Q:VK),Inv X pins σ H s->RelV x v->r x H Q ->
   wpAny (model X.prog X.w) X.A (f v) (EP X pins σ Q) X.xe s
def B4 (X:Cx) (f:Value) (r:List V->Hp->VK->Prop):Prop:=∀(pins:List (Addr×Obj)) (s:Shared) (σ:St) (H:Hp) (xs:List V) (us:List Value) (Q:VK),Inv X pins σ H s->Vals xs us->r xs H Q ->
   wpAny (model X.prog X.w) X.A (call f us) (EP X pins σ Q) X.xe s
def tOp (r:R2) (ta tb:TE):TE:=λσ H Q=>ta σ H λx H1=>tb σ H1 λy H2=>r x y H2 Q
def tUn (r:V->Hp->VK->Prop) (ta:TE):TE:=λσ H Q=>ta σ H λx H1=>r x H1 Q
def rI (C:Int->Int->Prop) (g:Int->Int->V):R2:=λx y H Q=>∃i j,x = .int i/\y = .int j/\C i j/\Q (g i j) H
def rI0 (g:Int->Int->V):R2:=λx y H Q=>∃i j,x = .int i/\y = .int j/\Q (g i j) H
def rU (g:Int->V):V->Hp->VK->Prop:=λx H Q=>∃i,x = .int i/\Q (g i) H
section
variable {X:Cx}{a b c:Expr}{ta tb tc:TE}{pos:Pos}
theorem XV (ha:PE X a ta) (hb:PE X b tb) {pins:List (Addr×Obj)}{s:Shared}{σ:St}{H:Hp}{R:V->V->Hp->Prop}(I:Inv X pins σ H s) (h:ta σ H λx H1=>tb σ H1 λy H2=>R x y H2) {Q:Value->Shared->Prop}{f:Value->Value->Sem Value} (hf:∀v u s2 x y H2,Inv X pins σ H2 s2->RelV x v->RelV y u->R x y H2->wpAny (model X.prog X.w) X.A (f v u) Q X.xe s2) :
   wpAny (model X.prog X.w) X.A (eval a X.env) (λv s₁=>wpAny (model X.prog X.w) X.A (eval b X.env) (λu s₂=>wpAny (model X.prog X.w) X.A (f v u) Q X.xe s₂) X.xe s₁) X.xe s:=by refine thn (ha pins s σ H _ I h) λv s1 ⟨x,H1,I1,r1,q1⟩=>?_;refine thn (hb pins s1 σ H1 _ I1 q1) λu s2 ⟨y,H2,I2,r2,q2⟩=>?_;exact hf v u s2 x y H2 I2 r1 r2 q2
theorem FY {op:Operator}{r:R2}(ho:OpR X (binaryOp op) r) (ha:PE X a ta) (hb:PE X b tb):PE X (.BinOp a op b pos) (tOp r ta tb):=by intro pins s σ H Q I h;exact wpAny_BinOp (XV ha hb I h λv u s2 x y H2 I2 rx ry q=>ho pins s2 σ H2 x y v u Q I2 rx ry q)
theorem aR {op:UnaryOp}{r:V->Hp->VK->Prop}(ho:UnR X (unaryOp op) r) (ha:PE X a ta):PE X (.UnaryOp op a pos) (tUn r ta):=by intro pins s σ H Q I h;exact UnaryOp_ (thn (ha pins s σ H _ I h) λv s1 ⟨x,H1,I1,r1,q1⟩=>ho pins s1 σ H1 x v Q I1 r1 q1)
theorem opI {f:Value->Value->Sem Value}{C:Int->Int->Prop}{g:Int->Int->Int} (rule:∀(i j:Int) (t u:Tok) (s:Shared) (Q:Value->Shared->Prop) (E:Value->Shared->Prop),C i j->Q (.int (g i j) s.toks) { s with toks:=s.toks+1 }->wpAny (model X.prog X.w) X.A (f (.int i t) (.int j u)) Q E s) :
   OpR X f (rI C λi j=>.int (g i j)):=by intro pins s σ H x y v u Q I rx ry h;obtain⟨i,j,rfl,rfl,hc,q⟩:=h;obtain⟨t,rfl⟩:=rx;obtain⟨t',rfl⟩:=ry;exact rule i j t t' s _ _ hc ⟨.int (g i j),H,I.tok _,⟨_,rfl⟩,q⟩
theorem aS {f:Value->Value->Sem Value}{g:Int->Int->Int} (rule:∀(i j:Int) (t u:Tok) (s:Shared) (Q:Value->Shared->Prop) (E:Value->Shared->Prop),Q (.int (g i j) s.toks) { s with toks:=s.toks+1 }->wpAny (model X.prog X.w) X.A (f (.int i t) (.int j u)) Q E s) :
   OpR X f (rI0 λi j=>.int (g i j)):=by intro pins s σ H x y v u Q I rx ry h;obtain⟨i,j,rfl,rfl,q⟩:=h;obtain⟨t,rfl⟩:=rx;obtain⟨t',rfl⟩:=ry;exact rule i j t t' s _ _ ⟨.int (g i j),H,I.tok _,⟨_,rfl⟩,q⟩
theorem cS {f:Value->Value->Sem Value}{g:Int->Int->Bool} (rule:∀(i j:Int) (t u:Tok) (s:Shared) (Q:Value->Shared->Prop) (E:Value->Shared->Prop),Q (.bool (g i j)) s->wpAny (model X.prog X.w) X.A (f (.int i t) (.int j u)) Q E s) :
   OpR X f (rI0 λi j=>.bl (g i j)):=by intro pins s σ H x y v u Q I rx ry h;obtain⟨i,j,rfl,rfl,q⟩:=h;obtain⟨t,rfl⟩:=rx;obtain⟨t',rfl⟩:=ry;exact rule i j t t' s _ _ ⟨.bl (g i j),H,I,rfl,q⟩
def aT (i j:Int):Prop:=0 < j/\j < 1073741824
def aU (i j:Int):Prop:=0<=j/\j<=1000000/\i.natAbs < 2 ^ 64
def CMul (i j:Int):Prop:=(-(2 ^ 64) < i/\i < 2 ^ 64)\/(-(2 ^ 64) < j/\j < 2 ^ 64)
theorem CMul.ok {i j:Int}(h:CMul i j):IntMulOk i j:=by
 rcases h with ⟨h1,h2⟩ | ⟨h1,h2⟩
 . exact .of_left (intBits_le_64 h1 h2)
 . exact .of_right (intBits_le_64 h1 h2)
theorem XW:OpR X (binaryOp .Add) (rI0 λi j=>.int (i+j)):=aS λ_ _ _ _ _ _ _ q=>add_int q
theorem XX:OpR X (binaryOp .Sub) (rI0 λi j=>.int (i - j)):=aS λ_ _ _ _ _ _ _ q=>sub_int q
theorem XY:OpR X (binaryOp .Mod) (rI (λ_ j=>0 < j) λi j=>.int (i % j)):=opI λi j _ _ _ _ _ hc q=>by have h1:(0:Int) < j:=hc;exact mod_int' (by lia) (by rw[Int.fmod_eq_emod_of_nonneg i (by lia)];exact q)
theorem XZ:OpR X (binaryOp .Pow) (rI aU λi j=>.int (i ^ j.toNat)):=opI λ_ _ _ _ _ _ _ hc q=>pow_int_small hc.1 hc.2.1 hc.2.2 q
theorem unI {f:Value->Sem Value}{g:Int->Int} (rule:∀(i:Int) (t:Tok) (s:Shared) (Q:Value->Shared->Prop) (E:Value->Shared->Prop),Q (.int (g i) s.toks) { s with toks:=s.toks+1 }->wpAny (model X.prog X.w) X.A (f (.int i t)) Q E s) :
   UnR X f (rU λi=>.int (g i)):=by intro pins s σ H x v Q I rx h;obtain⟨i,rfl,q⟩:=h;obtain⟨t,rfl⟩:=rx;exact rule i t s _ _ ⟨.int (g i),H,I.tok _,⟨_,rfl⟩,q⟩
theorem Y0:UnR X (unaryOp .USub) (rU λi=>.int (-i)):=unI λ_ _ _ _ _ q=>neg_int q
theorem KH {pins:List (Addr×Obj)}{σ:St}{H:Hp}{s:Shared}{Q:VK}{k k':Bool}(I:Inv X pins σ H s) (q:Q (.bl k) H) (e:k=k'):EP X pins σ Q (.bool k') s:=by subst e;exact⟨.bl k,H,I,rfl,q⟩
theorem aV:OpR X (compareOp .Lt) (rI0 λi j=>.bl (decide (i < j))):=cS λ_ _ _ _ _ _ _ q=>lt_int q
theorem PZ:OpR X (compareOp .Lt) (λx y H Q=>∃i j,x = .str i/\y = .str j/\Q (.bl (decide (i.cps.toList < j.cps.toList))) H):=by intro pins s σ H x y v u Q I rx ry h;obtain⟨i,j,rfl,rfl,q⟩:=h;obtain⟨t,rfl⟩:=rx;obtain⟨t',rfl⟩:=ry;exact lt_str (KH I q rfl)
theorem Q0:OpR X (compareOp .In) (λx y H Q=>∃i j,x = .str i/\y = .str j/\Q (.bl (!(a5Z j i 0 j.length 1).isEmpty)) H):=by intro pins s σ H x y v u Q I rx ry h;obtain⟨i,j,rfl,rfl,q⟩:=h;obtain⟨t,rfl⟩:=rx;obtain⟨t',rfl⟩:=ry;exact in_str (KH I q rfl)
theorem Y1:OpR X (compareOp .Is) (λx y H Q=>y = .non/\Q (.bl (decide (x = .non))) H):=by
 intro pins s σ H x y v u Q I rx ry h;obtain⟨rfl,q⟩:=h;cases ry;refine is_none_gen (KH I q ?_);cases x <;> first
   | (cases rx;rfl)
   | (obtain⟨t,rfl⟩:=rx;rfl)
theorem KI:OpR X (compareOp .NotIn) (λx y H Q=>∃i j,x = .str i/\y = .str j/\Q (.bl (!(!(a5Z j i 0 j.length 1).isEmpty))) H):=by intro pins s σ H x y v u Q I rx ry h;obtain⟨i,j,rfl,rfl,q⟩:=h;obtain⟨t,rfl⟩:=rx;obtain⟨t',rfl⟩:=ry;exact notIn_str (KH I q rfl)
theorem OpR.or {f:Value->Value->Sem Value}{r r':R2}(h:OpR X f r) (h':OpR X f r'):OpR X f (λx y H Q=>r x y H Q\/r' x y H Q):=by
 intro pins s σ H x y v u Q I rx ry q;rcases q with q | q;. exact h pins s σ H x y v u Q I rx ry q
 . exact h' pins s σ H x y v u Q I rx ry q
theorem DH (b:Expr) {op:CmpOp}(h:op≠.In:=by decide) (h2:op≠.NotIn:=by decide):behindInMarks op b=false:=by
 have e1:(op==CmpOp.In)=false:=by cases op <;> first | rfl | exact absurd rfl h
 have e2:(op==CmpOp.NotIn)=false:=by cases op <;> first | rfl | exact absurd rfl h2
 cases b <;> simp[behindInMarks,e1,e2]
theorem BX {op:CmpOp}{r:R2}(ho:OpR X (compareOp op) r) (ha:PE X a ta) (hb:PE X b tb) (hm:behindInMarks op b=false):PE X (.Compare a [op] [b] pos) (tOp r ta tb):=by intro pins s σ H Q I h;exact wpAny_Compare1 (XV ha hb I h λv u s2 x y H2 I2 rx ry q=>ho pins s2 σ H2 x y v u Q I2 rx ry q) hm
def WN (t:TE):TT:=λσ H Q=>t σ H λx H'=>∃k,x = .bl k/\Q k H'
theorem F2 {op:CmpOp}{r:R2}(ho:OpR X (compareOp op) r) (ha:PE X a ta) (hb:PE X b tb) (hm:behindInMarks op b=false):PT X (.Compare a [op] [b] pos) (WN (tOp r ta tb)):=by
 intro pins s σ H Q I h;refine wpAny_isTrue_Compare1 (thn (ha pins s σ H _ I h) λv s1 ⟨x,H1,I1,r1,q1⟩=>thn (hb pins s1 σ H1 _ I1 q1) λu s2 ⟨y,H2,I2,r2,q2⟩=>
   thn (ho pins s2 σ H2 x y v u _ I2 r1 r2 q2) λc s3 ⟨z,H3,I3,r3,k,e,q3⟩=>?_) hm;subst e;cases r3;exact wpAny_truthy_bool ⟨H3,I3,q3⟩
theorem IC:(sizeLine:Nat) < 2 ^ 63:=by rw[sizeLine_eq];decide
theorem NM:OpR X (binaryOp .Add) (λx y H Q=>∃i j,x = .str i/\y = .str j/\i.length+j.length<=sizeLine/\Q (.str (i++j)) H):=by intro pins s σ H x y v u Q I rx ry h;obtain⟨i,j,rfl,rfl,hz,q⟩:=h;obtain⟨t,rfl⟩:=rx;obtain⟨t',rfl⟩:=ry;exact add_str (λt' tk=>⟨.str (i++j),H,I.tok _,⟨_,rfl⟩,q⟩) hz
theorem FZ {x:V}{us:List Value}(r:Vals [x] us):∃u,us=[u]/\RelV x u:=by
 cases r with
 | cons r1 r2=>cases r2;exact⟨_,rfl,r1⟩
theorem OP {x y:V}{us:List Value}(r:Vals [x,y] us):∃u w',us=[u,w']/\RelV x u/\RelV y w':=by
 cases r with
 | cons r1 r2=>
   cases r2 with
   | cons r3 r4=>cases r4;exact⟨_,_,rfl,r1,r3⟩
theorem Q1 (hc:X.calm=true):B4 X (.builtin "max") (λxs H Q=>∃i j,xs=[.int i,.int j]/\Q (.int (if j > i then j else i)) H):=by
 intro pins s σ H xs us Q I r h;obtain⟨i,j,rfl,q⟩:=h;obtain⟨u,w',rfl,⟨t,rfl⟩,⟨t',rfl⟩⟩:=OP r;refine max_two_ints (I.ok.hd hc) λh' tk k=>⟨_,H,I.kept k,?_,q⟩
 by_cases hj:j > i;. rw[if_pos hj,if_pos hj];exact⟨_,rfl⟩
 . rw[if_neg hj,if_neg hj];exact⟨_,rfl⟩
theorem Q2 (hc:X.calm=true):B4 X (.builtin "min") (λxs H Q=>∃i j,xs=[.int i,.int j]/\Q (.int (if j < i then j else i)) H):=by
 intro pins s σ H xs us Q I r h;obtain⟨i,j,rfl,q⟩:=h;obtain⟨u,w',rfl,⟨t,rfl⟩,⟨t',rfl⟩⟩:=OP r;refine min_two_ints (I.ok.hd hc) λh' tk k=>⟨_,H,I.kept k,?_,q⟩
 by_cases hj:j < i;. rw[if_pos hj,if_pos hj];exact⟨_,rfl⟩
 . rw[if_neg hj,if_neg hj];exact⟨_,rfl⟩
theorem Q3:B4 X (.type "int") (λxs H Q=>(∃i,xs=[.int i]/\Q (.int i) H)\/∃k,xs=[.bl k]/\Q (.int (if k then 1 else 0)) H):=by
 intro pins s σ H xs us Q I r h;rcases h with ⟨i,rfl,q⟩ | ⟨k,rfl,q⟩
 . obtain⟨u,rfl,t,rfl⟩:=FZ r;exact call_int_int ⟨.int i,H,I,⟨_,rfl⟩,q⟩
 . obtain⟨u,rfl,r1⟩:=FZ r;cases r1;exact call_int_bool ⟨.int (if k then 1 else 0),H,I.tok _,⟨_,rfl⟩,q⟩
def Y2 (K:Frg) (x:V) (H:Hp) (n:Nat):Prop:=
 match x with
 | .str y=>y.length<=sizeLine/\n=y.length
 | .byt y=>y.size<=sizeLine/\n=y.size
 | .ref p=>(∃xs,SqL K H p xs/\n=xs.length)\/∃xs,SqT K H p xs/\n=xs.length
 | _=>False
theorem RK:B4 X (.builtin "len") (λxs H Q=>∃x n,xs=[x]/\Y2 X.K x H n/\Q (.int n) H):=by
 intro pins s σ H xs us Q I r h;obtain⟨x,n,rfl,e,q⟩:=h;obtain⟨u,rfl,rx⟩:=FZ r;have hl:=IC;have hs:sizeLine=16777216:=sizeLine_eq;cases x with
 | str y=> obtain⟨t,rfl⟩:=rx;obtain⟨hy,e'⟩:y.length<=sizeLine/\n=y.length:=e;subst e';exact len_str (by lia) ⟨.int _,H,I.tok _,⟨_,rfl⟩,q⟩
 | byt y=> obtain⟨t,rfl⟩:=rx;obtain⟨hy,e'⟩:y.size<=sizeLine/\n=y.size:=e;subst e';exact PySem.W.len_bytes (by lia) ⟨.int _,H,I.tok _,⟨_,rfl⟩,q⟩
 | ref p=>
   cases rx;have e':(∃xs,SqL X.K H p xs/\n=xs.length)\/∃xs,SqT X.K H p xs/\n=xs.length:=e;rcases e' with ⟨xs,hx,e'⟩ | ⟨xs,hx,e'⟩
   . subst e';obtain⟨aa,r',pl,hz⟩:=I.list hx;have ac:=r'.length;exact Calls.call_len_list pl.isList (by simp only[zJ];lia) ⟨.int xs.length,H,I.tok _,⟨_,by simp only[zJ];rw[ac]⟩,q⟩
   . subst e';obtain⟨aa,r',pl,hz⟩:=I.tuple hx;have ac:=r'.length;exact len_tuple pl (by simp only[zJ];lia) ⟨.int xs.length,H,I.tok _,⟨_,by simp only[zJ];rw[ac]⟩,q⟩
 | _=>exact(show False from e).elim
theorem M0:B4 X (.builtin "divmod") (λxs H Q=>∃i j,xs=[.int i,.int j]/\aT i j/\∀p,H p=none->Q (.ref p) (upd H p (.tup [.int (i/j),.int (i % j)]))):=by intro pins s σ H xs us Q I r h;obtain⟨i,j,rfl,⟨h1,h2⟩,q⟩:=h;obtain⟨u,w',rfl,⟨t,rfl⟩,⟨t',rfl⟩⟩:=OP r;refine divmod_int (by lia) ?_ (.inl (PyProof.noPylong_small (by lia)));rw[Int.fdiv_eq_ediv_of_nonneg i (by lia),Int.fmod_eq_emod_of_nonneg i (by lia)];have hn:H s.heap.objs.size=none:=I.hok.fresh (zR _);refine⟨.ref s.heap.objs.size,_,?_,rfl,q _ hn⟩;refine I.laid (λb o e=>zW _ e) (zR _) ⟨by simp only[b0K,List.length_nil];rw[sizeLine_eq];decide,[.int (i/j) s.toks,.int (i % j) (s.toks+1)],.cons ⟨_,rfl⟩ (.cons ⟨_,rfl⟩ .nil),?_⟩;exact⟨_,yZ s.heap rfl,rfl,0,rfl⟩
end
structure ObjM (h:Heap) (x dx C:Addr) (mA:Str->Option Value):Prop where
 obj:h.get? x=some (PySem.W.instObj C dx)
 ns:h.Ns1 dx mA
 ne:dx≠x
theorem Q4 {h:Heap}{dx:Addr}{mA:Str->Option Value}(n:h.Ns1 dx mA):∃od,h.get? dx=some od/\∀name,PySem.W.lookIn name od=some (mA name):=by
 obtain⟨o,es,ep,ho,hd,hk,_,hm⟩:=n;refine⟨o,ho,λname=>?_⟩;have e:=hm name;unfold nsFind findBy at e;rw[<-Array.find?_toList] at e;unfold PySem.W.lookIn;rw[hd];dsimp only;split;. rename_i y q;rw[q] at e;exact congrArg some e
 . rename_i q;rw[q] at e;have a:es.toList.any (·.refKey)=false:=by rw[List.any_eq_false];intro y hy;obtain⟨z,t,gS⟩:=hk y (Array.mem_toList_iff.mp hy);simp[DictEntry.refKey,gS]
   have a':¬es.toList.any (·.refKey)=true:=by rw[a];exact nft
   rw[if_neg a'];exact congrArg some e
theorem ObjM.look {h:Heap}{x dx C:Addr}{mA:Str->Option Value}(I:ObjM h x dx C mA):∃od,PySem.W.InstAt h x (PySem.W.instObj C dx) C (some od)/\∀name,PySem.W.lookIn name od=some (mA name):=
 let ⟨od,ho,hl⟩:=Q4 I.ns
 ⟨od,⟨I.obj,rfl,rfl,ho⟩,hl⟩
theorem RelO.some_of {v:V}{o:Option Value}(r:RelO (some v) o):∃u,o=some u/\RelV v u:=by
 cases o with
 | none=>exact(show False from r).elim
 | some u=>exact⟨u,rfl,r⟩
section
variable {P:Program}{w:World}{H H':Hp}{h h':Heap}{a C dx:Addr}{fs jy:List (Str×V)}
theorem UK (hok:HOk P w H h) (e:H a=some (.ins C dx fs)):∃mA,ObjM h a dx C mA/\(∀f,RelO (fs.lookup f) (mA f))/\PySem.Within mA (fs.map (·.1))/\fs.length<=1000/\H dx=some (.own a):=by
 obtain⟨d,z,ne,ob,mA,n,r,q⟩:=(show ObjOk P w H h a (.ins C dx fs) from hok a _ e)
 exact⟨mA,⟨ob,n,ne⟩,r,q,z,d⟩
end
structure Cls (K:Frg) (C:Addr):Prop where
 pg:PySem.W.plainGet K C Str.empty=true
 hd:PySem.W.hasDictIn K C=true
 po:PySem.W.plainOver K C=true
 sa:PySem.W.findIn K (.ref C) "__setattr__"=some (some (.builtin "object.__setattr__"))
theorem Cls.get {K:Frg}{C:Addr}(c:Cls K C) (f:Str):PySem.W.plainGet K C f=true:=c.pg
section
variable {X:Cx}{pins:List (Addr×Obj)}{σ:St}{H:Hp}{s:Shared}{A:Around}{E:Value->Shared->Prop}{Q:Value->Shared->Prop}{c:Value}{b:Bool}
inductive TyOf (K:Frg) (H:Hp):V->Value->Prop where
 | non:TyOf K H .non (.type "NoneType")
 | bl (x:Bool):TyOf K H (.bl x) (.type "bool")
 | int (i:Int):TyOf K H (.int i) (.type "int")
 | str (x:Str):TyOf K H (.str x) (.type "str")
 | flt (x:UInt64):TyOf K H (.flt x) (.type "float")
 | lst {a:Addr}{xs:List V}(e:H a=some (.lst xs)):TyOf K H (.ref a) (.type "list")
 | frz {a:Addr}{o:Obj}{xs:List V}(e:H a=some (.frz o (.lst xs))):TyOf K H (.ref a) (.type "list")
 | tup {a:Addr}{xs:List V}(e:H a=some (.tup xs)):TyOf K H (.ref a) (.type "tuple")
 | dK {a:Addr}{kvs:List (Key×V)}(e:H a=some (.dK kvs)):TyOf K H (.ref a) (.type "dict")
 | dT {a:Addr}{kvs:List (List Key×V)}(e:H a=some (.dT kvs)):TyOf K H (.ref a) (.type "dict")
 | ins {a C dx:Addr}{fs:List (Str×V)}(e:H a=some (.ins C dx fs)) (cl:Cls K C) (ha:PySem.W.findIn K (.ref C) "__class__"=some (some (.builtin "object.__class__"))) (hn:PySem.W.specialIn K (.builtin "object.__class__") "__get__"=some (some (.builtin "getset_descriptor.__get__"))) (htk:PySem.W.takesIn K (.builtin "object.__class__")=some true) (hm:PySem.W.mroIn K C (.type "object")=some true):TyOf K H (.ref a) (.ref C)
theorem DO {x:V}{u t:Value}(I:Inv X pins σ H s) (rx:RelV x u) (ty:TyOf X.K H x t) (e:PySem.W.kitOne X.K t c=some b) (h:∀tk,Q (.bool b) { s with toks:=tk }) :
   wpAny (model X.prog X.w) A (call (.builtin "isinstance") [u,c]) Q E s:=by
 cases ty with
 | non=>cases (show u=Value.none from rx);exact a1J PySem.W.kitx_none I.kIn a6Z e (λz=>nomatch z) h
 | bl y=>cases (show u=Value.bool y from rx);exact a1J PySem.W.kitx_bool I.kIn a6Z e (λz=>nomatch z) h
 | int i=>obtain⟨t,q⟩:=(show ∃t,u=Value.int i t from rx);cases q;exact a1J PySem.W.kitx_int I.kIn a6Z e (λz=>nomatch z) h
 | str y=>obtain⟨t,q⟩:=(show ∃t,u=Value.str y t from rx);cases q;exact a1J PySem.W.kitx_str I.kIn a6Z e (λz=>nomatch z) h
 | flt y=>obtain⟨t,q⟩:=(show ∃t,u=Value.float y t from rx);cases q;exact a1J PySem.W.kitx_float I.kIn a6Z e (λz=>nomatch z) h
 | @lst a xs ea=>
   cases (show u=a0X a from rx);obtain⟨_,_,n,_,h1⟩:=(show ObjOk X.prog X.w H s.heap a (.lst xs) from I.hok a _ ea)
   exact a1J PySem.W.kitx_list I.kIn ⟨_,h1,rfl⟩ e (λz=>nomatch z) h
 | @frz a ob xs ea=>
   cases (show u=a0X a from rx);obtain⟨_,_,_,n,_,h1⟩:=(show ObjOk X.prog X.w H s.heap a (.frz ob (.lst xs)) from I.hok a _ ea)
   exact a1J PySem.W.kitx_list I.kIn ⟨_,h1,rfl⟩ e (λz=>nomatch z) h
 | @tup a xs ea=>
   cases (show u=a0X a from rx);obtain⟨_,_,_,p⟩:=(show ObjOk X.prog X.w H s.heap a (.tup xs) from I.hok a _ ea)
   obtain⟨o,h1,h2,_⟩:=p;exact a1J PySem.W.kitx_tuple I.kIn ⟨o,h1,h2⟩ e (λz=>nomatch z) h
 | @dK a kvs ea=>
   cases (show u=a0X a from rx);obtain⟨_,_,vs,_,p⟩:=(show ObjOk X.prog X.w H s.heap a (.dK kvs) from I.hok a _ ea)
   obtain⟨o,es,ep,h1,h2,_⟩:=p;exact a1J PySem.W.kitx_dict I.kIn ⟨o,h1,h2.1⟩ e (λz=>nomatch z) h
 | @dT a kvs ea=>
   cases (show u=a0X a from rx);obtain⟨_,_,xs,_,o,es,ep,h1,h2,_⟩:=(show ObjOk X.prog X.w H s.heap a (.dT kvs) from I.hok a _ ea)
   exact a1J PySem.W.kitx_dict I.kIn ⟨o,h1,h2.1⟩ e (λz=>nomatch z) h
 | @ins a C dx fs ea cl ha hn htk hm=> cases (show u=a0X a from rx);obtain⟨mA,O,_⟩:=UK I.hok ea;obtain⟨od,J,_⟩:=O.look;exact a1J (PySem.W.kitx_own (cl.get _) cl.hd ha hn htk hm) I.kIn J e (λz=>nomatch z) h
end
structure Room (k:Nat) (A:Around):Prop where
 hd:A.handled=none
 dp:A.depth+3*k+5 < recursionLimit
 un:A.units+16*k+200 < cLine
theorem Room.mono {j k:Nat}{A:Around}(r:Room k A) (h:j<=k):Room j A:=⟨r.hd,by have:=r.dp;lia,by have:=r.un;lia⟩
theorem Room.deeper {k:Nat}{A:Around}(r:Room (k+1) A) (env:Env):Room k (A.deeper env):=⟨r.hd,by have:=r.dp;show A.depth+1+3*k+5 < _;lia,by have:=r.un;show A.units+3+16*k+200 < _;lia⟩
theorem Room.depth {k:Nat}{A:Around}(r:Room k A):A.depth < recursionLimit:=by have:=r.dp;lia
theorem Room.units {k:Nat}{A:Around}(r:Room k A):A.units+64 < cLine:=by have:=r.un;lia
def aW:TA:=λ_ H Q=>Q [] H
def WO (ta:TE) (tr:TA):TA:=λσ H Q=>ta σ H λx H1=>tr σ H1 λxs H2=>Q (x::xs) H2
section
variable {X:Cx}{e:Expr}{es:List Expr}{te:TE}{t:TA}{pos:Pos}
theorem Y3:PA X [] aW:=λ_ _ _ _ H Q I h=>Calls.spliced_nil ⟨[],H,I,.nil,h⟩
theorem UL (ha:PE X e te) (hr:PA X es t) (hs:starEach (e::es) X.env=(false,eval e X.env)::starEach es X.env:=by rfl):PA X (e::es) (WO te t):=by intro pos pins s σ H Q I h;rw[hs];show wpAny _ _ (spliced ((false,eval e X.env)::backTo pos (starEach es X.env))) _ _ s;refine Calls.spliced_cons (thn (ha pins s σ H _ I h) λu s1 ⟨x,H1,I1,r1,q1⟩=>?_);exact thn (hr pos pins s1 σ H1 _ I1 q1) λus s2 ⟨xs,H2,I2,r2,q2⟩=>⟨x::xs,H2,I2,.cons r1 r2,q2⟩
def aX (t:TA):TE:=λσ H Q=>t σ H λxs H1=>xs.length<=sizeLine/\∀p,H1 p=none->Q (.ref p) (upd H1 p (.tup xs))
def Y4 (t:TA):TE:=λσ H Q=>t σ H λxs H1=>xs.length<=sizeLine/\∀p,H1 p=none->Q (.ref p) (upd H1 p (.lst xs))
theorem Y5 {x1} (h:PA X es t):PE X (.Tuple es x1 pos) (aX t):=by intro pins s σ H Q I hq;refine wpAny_Tuple_spliced (thn (h pos pins s σ H _ I hq) λus s1 ⟨xs,H1,I1,r,z,q⟩=>⟨by rw[<-r.length];exact z,?_⟩);have hf:H1 s1.heap.objs.size=none:=I1.hok.fresh (zR _);refine⟨.ref s1.heap.objs.size,upd H1 s1.heap.objs.size (.tup xs),I1.laid (t':=s1.toks) (λb u e=>zW _ e) (zR _) ?_,rfl,q _ hf⟩;exact⟨z,us,r,⟨_,yZ _ rfl,rfl,_,rfl⟩⟩
theorem Y6 (h:PA X es t):PE X (.List es pos) (Y4 t):=by intro pins s σ H Q I hq;refine wpAny_List_spliced (thn (h pos pins s σ H _ I hq) λus s1 ⟨xs,H1,I1,r,z,q⟩=>⟨by rw[<-r.length];exact z,?_⟩);have hf:H1 s1.heap.objs.size=none:=I1.hok.fresh (zR _);refine⟨.ref s1.heap.objs.size,upd H1 s1.heap.objs.size (.lst xs),I1.laid (t':=s1.toks) (λb u e=>zW _ e) (zR _) ?_,rfl,q _ hf⟩;exact⟨z,us,0,r,yZ _ rfl⟩
end
abbrev Sp:=List V->Hp->VK->XK->Prop
abbrev CXT:=List Env->Hp->Shared->XK->Value->Shared->Prop
structure Env0 (P:Program) (w:World) (K:Frg) (mg:Str->Option Value) (base:Heap) (A:Around) (outer:List Env) (s:Shared) (H:Hp):Prop where
 frames:A.frames=some outer
 mod:Mod K mg base
 bs:∀b o,base.get? b=some o->s.heap.get? b=some o/\H b=none
 bsz:base.objs.size<=s.heap.objs.size
 funs:s.heap.FunFrames base outer
 frf:∀b∈frs outer,H b=none
 hok:HOk P w H s.heap
 bare:AllBare s.gens
def CE (outer:List Env) (P:Program) (w:World) (H:Hp) (s:Shared) (Q:VK) (u:Value) (s':Shared):Prop:=∃v H',s'.os=s.os/\AllBare s'.gens/\Un (frs outer) [] H H' s.heap s'.heap/\HOk P w H' s'.heap/\RelV v u/\Q v H'
def CR (CX:CXT) (outer:List Env) (P:Program) (w:World) (H:Hp) (s:Shared) (Q:VK) (E:XK) (r:Result) (s':Shared):Prop:=
 match r with
 | .ok (.ret u)=>CE outer P w H s Q u s'
 | .ok _=>False
 | .error e=>CX outer H s E e s'
structure FnOk (P:Program) (w:World) (K:Frg) (mg:Str->Option Value) (base:Heap) (CX:CXT) (k:Nat) (f:Addr) (fd:FuncData) (ps:List Str) (sp:Sp):Prop where
 len:∀vs H Q E,sp vs H Q E->vs.length=ps.length
 run:∀(A:Around) (outer:List Env) (s:Shared) (H:Hp) (args:Args) (us:List Value) (vs:List V) (Q:VK) (E:XK),Room k A->Env0 P w K mg base A outer s H->BindsTo s fd args (ps.zip us)->Vals vs us->sp vs H Q E ->
   codeAny (model P w) A (.call (.ref f) args) (CR CX outer P w H s Q E) s
section
variable {X:Cx}{pins:List (Addr×Obj)}{σ:St}{H:Hp}{s s':Shared}
theorem Inv.env0 (I:Inv X pins σ H s):Env0 X.prog X.w X.K X.mg X.base X.A X.stack s H:=⟨I.ok.frames,I.ok.mod,I.bs,zN I.ok.bsz I.sz,I.stack,I.stkFree,I.hok,I.bare⟩
theorem Inv.after {Q:VK}{u:Value}(I:Inv X pins σ H s) (h:CE X.stack X.prog X.w H s Q u s'):EP X pins σ Q u s':=by obtain⟨v,H',os,bare,un,hok,r,q⟩:=h;obtain⟨hh,g,d,t,gT⟩:=s';obtain rfl:gT=s.os:=os;exact⟨v,H',I.call (h':=hh) (g':=g) (d':=d) (t':=t) (ch:=[]) un hok bare (λb z=>absurd z (by simp)),r,q⟩
end
def OQ (sp:Sp) (eY:List V) (E:XK) (t:TA):TE:=λσ H Q=>t σ H λvs H1=>sp (vs++eY) H1 Q E
def Binds (K:Frg) (fd:FuncData) (ps:List Str) (ds:List Value):Prop:=∀(s:Shared) (us:List Value),K.In s.heap->(us++ds).length=ps.length->BindsTo s fd ⟨us,[]⟩ (ps.zip (us++ds))
theorem Binds.all {K:Frg}{fd:FuncData}{ps:List Str}(h:∀us:List Value,us.length=ps.length->bindArgs fd ⟨us,[]⟩=pure (ps.zip us)):Binds K fd ps []:=λs us _ hl=>by rw[a8Z] at hl ⊢;exact .of_eq (h us hl)
def NN (CX:CXT) (X:Cx) (E:XK):Prop:=∀(pins:List (Addr×Obj)) (σ:St) (H:Hp) (s:Shared) (e:Value) (s':Shared),Inv X pins σ H s->CX X.stack H s E e s'->X.xe e s'
section
variable {X:Cx}{CX:CXT}{k:Nat}{f C:Addr}{fd:FuncData}{ps:List Str}{sp:Sp}{eY:List V}{ds:List Value}{E:XK}{x m:Str}{p pos apos:Pos}{e o:Expr}{es:List Expr}{ta:TE}{t:TA}
theorem Y7 {pins:List (Addr×Obj)}{σ:St}{H:Hp}{s:Shared}{Q:VK}{us:List Value}{vs:List V}(F:FnOk X.prog X.w X.K X.mg X.base CX k f fd ps sp) (hr:Room k X.A) (hb:Binds X.K fd ps ds) (hd:Vals eY ds) (hx:NN CX X E) (I:Inv X pins σ H s) (r:Vals vs us) (h:sp (vs++eY) H Q E):wpAny (model X.prog X.w) X.A (call (.ref f) us) (EP X pins σ Q) X.xe s:=by
 have r2:Vals (vs++eY) (us++ds):=r.append hd;have hl:(us++ds).length=ps.length:=by rw[<-r2.length];exact F.len _ _ _ _ h
 refine wpAny_call (codeAny_mono (F.run X.A X.stack s H ⟨us,[]⟩ (us++ds) (vs++eY) Q E hr I.env0 (hb s us I.kIn hl) r2 h) λr s' hq=>?_);cases r with
 | error e=>exact hx pins σ H s e s' I hq
 | ok fl=>
   cases fl with
   | ret u=>exact I.after hq
   | next=>exact a6X hq
   | brk=>exact a6X hq
   | cont=>exact a6X hq
theorem UM (F:FnOk X.prog X.w X.K X.mg X.base CX k f fd ps sp) (hr:Room k X.A) (hg:Gl X x) (hm:X.mg x=some (.ref f)) (hk:a5Q X.K (.ref f)=true) (hb:Binds X.K fd ps ds) (hd:Vals eY ds) (hx:NN CX X E) (ha:PA X (e::es) t) (eJ:(x==("__debug__":Str))=false:=by decide) (he:starEach (e::es) X.env=(false,eval e X.env)::starEach es X.env:=by rfl) (e7:(backTo pos (starEach es X.env)).any (·.1)=false:=by rfl) :
   PE X (.Call (.Name x p) (e::es) [] pos) (OQ sp eY E t):=by intro pins s σ H Q I h;refine wpAny_Call_Name_kw (KF I hg hm ?_ eJ);refine PySem.W.callWith_K (h₀:=X.base) I.ok.mod.kin hk (thn (ha pos pins s σ H _ I h) λus s1 ⟨vs,H1,I1,r,q⟩=>⟨I1.kIn,?_⟩) he e7;exact Y7 F hr hb hd hx I1 r q
end
structure FnScope (N P:List Str) (sc:Scope):Prop where
 kind:sc.kind = .function
 co:sc.isCoroutine=false
 gen:sc.isGenerator=false
 nd:N.Nodup
 pre:N.take P.length=P
 par:∀x∈P,sc.names.lookup x=some .local\/sc.names.lookup x=some .cell
 nofree:∀y∈sc.names,y.2≠.free
theorem JW {kindOf:Str->Option NameKind}{x:Str}:∀{binds:List (Str×Value)}{m:Str->Option Value},(∀v,(x,v)∉binds)->bindL kindOf binds m x=m x
 | [],_,_=>rfl
 | (n,v)::r,m,h=>by
   unfold bindL;rw[JW λw hw=>h w (yV _ hw)];split
   . have:x≠n:=by rintro rfl;exact h v a1X
     simp[this]
   . rfl
theorem JX {kindOf:Str->Option NameKind}{x:Str}:∀{binds:List (Str×Value)}{m:Str->Option Value},(∀v,(x,v)∉binds)->bindC kindOf binds m x=m x
 | [],_,_=>rfl
 | (n,v)::r,m,h=>by
   unfold bindC;rw[JX λw hw=>h w (yV _ hw)];split;. rfl
   . have:x≠n:=by rintro rfl;exact h v a1X
     simp[this]
theorem JY {kindOf:Str->Option NameKind}{x:Str}{v:Value}:∀{P:List Str}{vs:List Value}{i:Nat}{m:Str->Option Value},P.Nodup->P[i]?=some x->vs[i]?=some v->kindOf x=some .local ->
   bindL kindOf (P.zip vs) m x=some v
 | [],_,_,_,_,h,_,_=>by simp at h
 | _::_,[],_,_,_,_,h,_=>by simp at h
 | p::P,w::vs,0,m,nd,h1,h2,hk=>by simp at h1 h2;subst h1;subst h2;show bindL kindOf ((p,w)::P.zip vs) m p=_;unfold bindL;rw[JW λv hv=>(xW.mp nd).1 (List.of_mem_zip hv).1,if_pos hk];simp
 | p::P,w::vs,i+1,m,nd,h1,h2,hk=>by show bindL kindOf ((p,w)::P.zip vs) m x=_;unfold bindL;exact JY (i:=i) (xW.mp nd).2 (by simpa using h1) (by simpa using h2) hk
theorem JZ {kindOf:Str->Option NameKind}{x:Str}{v:Value}:∀{P:List Str}{vs:List Value}{i:Nat}{m:Str->Option Value},P.Nodup->P[i]?=some x->vs[i]?=some v->kindOf x≠some .local ->
   bindC kindOf (P.zip vs) m x=some v
 | [],_,_,_,_,h,_,_=>by simp at h
 | _::_,[],_,_,_,_,h,_=>by simp at h
 | p::P,w::vs,0,m,nd,h1,h2,hk=>by simp at h1 h2;subst h1;subst h2;show bindC kindOf ((p,w)::P.zip vs) m p=_;unfold bindC;rw[JX λv hv=>(xW.mp nd).1 (List.of_mem_zip hv).1,if_neg hk];simp
 | p::P,w::vs,i+1,m,nd,h1,h2,hk=>by show bindC kindOf ((p,w)::P.zip vs) m x=_;unfold bindC;exact JZ (i:=i) (xW.mp nd).2 (by simpa using h1) (by simpa using h2) hk
def EE (N:List Str) (vs:List V):St:=vs.map some++a2W (N.length - vs.length) none
def NO (CX:CXT) (P:Program) (w:World) (K:Frg) (mg:Str->Option Value) (base:Heap) (N:List Str) (qual:Str) (scope:Scope) (f:Addr) (cd:Value) (A:Around) (outer:List Env) (s:Shared) (H:Hp) (E:XK):Cx where
 prog:=P
 w:=w
 K:=K
 mg:=mg
 base:=base
 A:=A.deeper (envOfC qual scope s.heap.objs.size f cd)
 N:=N
 s₀:=s
 H₀:=H
 env:=envOfC qual scope s.heap.objs.size f cd
 outer:=outer
 stack:=envOfC qual scope s.heap.objs.size f cd::outer
 ex:=[]
 calm:=true
 fn:=λ_=>true
 pn:=[]
 xe:=λe s'=>wpAny (model P w) (A.deeper (envOfC qual scope s.heap.objs.size f cd)) (leaving (envOfC qual scope s.heap.objs.size f cd) e) (λ_ ft=>CX outer H s E e ft) (λe' ft=>CX outer H s E e' ft) s'
theorem M7 {sc:Scope}{n:Nat}{x:Str}(h:sc.names.lookup x=some .cell):∃c,(cellsFrom n sc.names []).lookup x=some c:=by have q:=PySem.W.cellsFrom_some sc.names n [] (.inl h);exact Option.isSome_iff_exists.mp q
theorem Q5 {CX:CXT}{P:Program}{w:World}{K:Frg}{mg:Str->Option Value}{base:Heap}{N ps:List Str}{qual:Str}{scope:Scope}{f:Addr}{cd:Value}{A:Around}{outer:List Env}{s s1:Shared}{H:Hp}{E:XK}{us:List Value}{vs:List V} (S:FnScope N ps scope) (hd:A.handled=none) (e0:Env0 P w K mg base A outer s H) (hl:vs.length=ps.length) (r:Vals vs us) (x:InCallC s s.heap.objs.size (bindL (envOfC qual scope s.heap.objs.size f cd).kindOf (ps.zip us) λ_=>none) (cellsFrom (s.heap.objs.size+1) scope.names []) (bindC (envOfC qual scope s.heap.objs.size f cd).kindOf (ps.zip us) λ_=>none) s1) :
   Inv (NO CX P w K mg base N qual scope f cd A outer s H E) [] (EE N vs) H s1:=by
 have e7:ps.length<=N.length:=by have:=congrArg List.length S.pre;rw[a5K] at this;lia
 obtain⟨h1,tk,rfl,hk⟩:=x.done;have fH:∀b:Addr,b∉(NO CX P w K mg base N qual scope f cd A outer s H E).ex:=λb z=>absurd (show b∈([]:List Addr) from z) (by simp);refine⟨⟨e0.mod,S.kind,rfl,rfl,zR _,λy z c h1 h2=>?_,λy hy=>?_,λy c _ h=>?_,λ_=>hd,Around.frames_deeper e0.frames,.inr ⟨rfl,rfl⟩,λb z=>absurd z (fH b),e0.bs,e0.bsz,λb _ _=>fH b,λb z=>absurd z (fH b),e0.funs,e0.frf⟩,
   rfl,e0.bare,Un.kept hk,⟨_,x.toInCall.ns,λi y v h1 h2 h3=>?_⟩,λy c h=>⟨_,x.cell y c h⟩,e0.hok.fresh (zR _),λy c h=>?_,λp hp=>absurd (show p∈([]:List (Addr×Obj)) from hp) (by simp),e0.hok.kept hk,?_⟩
 . exact name_of_addr x.apart (a2K h1) (a2K h2)
 . have hy:scope.names.lookup y=some .cell\/scope.names.lookup y=some .free:=hy;rcases hy with hy | hy;. exact M7 hy
   . exact absurd rfl (S.nofree _ (a2K hy))
 . exact Nat.le_of_lt (x.above y c (a2K h))
 . have hi:i < vs.length:=by
     unfold EE at h2;by_cases hi:i < vs.length;. exact hi
     . rw[List.getElem?_append_right (by simpa using hi)] at h2;rw[List.getElem?_replicate] at h2;split at h2 <;> cases h2
   have ha:vs[i]?=some v:=by
     unfold EE at h2;rw[yR (by simpa using hi),zF] at h2;cases e:vs[i]? with
     | none=>rw[e] at h2;cases h2
     | some a=>rw[e] at h2;cases h2;rfl
   obtain⟨u,hu,rv⟩:=r.get ha;have hp:ps[i]?=some y:=by rw[<-S.pre,List.getElem?_take_of_lt (by lia)];exact h1
   have i7:ps.Nodup:=by rw[<-S.pre];exact S.nd.sublist (List.take_sublist _ _)
   refine⟨u,rv,?_⟩;rcases S.par y (List.mem_of_getElem? hp) with k | k;. exact .inl ⟨k,JY i7 hp hu k⟩
   . obtain⟨c,e⟩:=M7 (n:=s.heap.objs.size+1) k;refine .inr ⟨.inl k,c,e,?_⟩;have q:=x.cell y c e;rw[JZ i7 hp hu (by show scope.names.lookup y≠_;rw[k];decide)] at q;exact q
 . exact e0.hok.fresh (Nat.le_of_lt (x.above y c (a2K h)))
 . unfold EE;show _=N.length;rw[yY,zX,a4K];lia
theorem aY {CX:CXT}{P:Program}{w:World}{K:Frg}{mg:Str->Option Value}{base:Heap}{k:Nat}{f:Addr}{name qual:Str}{params:Arguments}{body:List Stmt}{scope:Scope}{dV kV doc pm cdv ct oc:Value}{an od:Option Addr} {osl:Array (Option Value)}{N ps:List Str}{sp:Sp}(lk:K.lookup f=some ⟨oc,od,.func (a3W name qual params body scope dV kV doc pm an cdv ct),osl⟩) (dX:a8J K cdv qual=true) (S:FnScope N ps scope) (len:∀vs H Q E,sp vs H Q E->vs.length=ps.length) (cj:∀(A:Around) (outer:List Env) (s:Shared) (H:Hp) (vs:List V) (Q:VK) (E:XK),Room k (A.deeper (envOfC qual scope s.heap.objs.size f cdv))->sp vs H Q E ->∃t,PSs (NO CX P w K mg base N qual scope f cdv A outer s H E) body t/\t { nx:=λ_ H'=>Q .non H',rt:=Q } (EE N vs) H) :
   FnOk P w K mg base CX (k+1) f (a3W name qual params body scope dV kV doc pm an cdv ct) ps sp:=by
 refine⟨len,λA outer s H args us vs Q E hr e0 hb r eZ=>?_⟩;have hl:=len _ _ _ _ eZ;have KX:K.In s.heap:=e0.mod.kin.keeps λb o e=>(e0.bs b o e).1;have lim:s.heap.NoLimit:=e0.mod.nolimit.keeps λb o e=>(e0.bs b o e).1;have fI:∀y∈ps.zip us,scope.names.lookup y.1=some .local\/(scope.names.lookup y.1=some .cell/\((cellsFrom (s.heap.objs.size+1) scope.names []).lookup y.1).isSome=true):=λ⟨n,v⟩ hy=>by
   rcases S.par n (List.of_mem_zip hy).1 with q | q;. exact .inl q
   . exact .inr ⟨q,PySem.W.cellsFrom_some _ _ _ (.inl q)⟩
 refine codeAny_call_function hr.depth (KX _ _ lk) rfl S.co S.gen rfl (PySem.W.codeRec_of KX dX) (hb _ _ _ _ ?_);refine wpAny_newFunctionEnv_cells S.kind fI λenv he s1 x=>?_;subst he;refine⟨lim.keeps x.toInCall.keep,codeAny_func ?_⟩;obtain⟨t,ht,hq⟩:=cj A outer s H vs Q E (hr.deeper _) eZ;have I:Inv (NO CX P w K mg base N qual scope f cdv A outer s H E) [] (EE N vs) H s1:=Q5 S hr.hd e0 hl r x;refine wpAny_mono (ht [] s1 (EE N vs) H _ I hq) (λfl s' hs=>?_) λe s' hs=>hs;have fin:∀{σ':St}{H':Hp}{v:V}{u:Value},Inv (NO CX P w K mg base N qual scope f cdv A outer s H E) [] σ' H' s'->RelV v u->Q v H'->CE outer P w H s Q u s':=
   λ{σ' H' v u} J rv q=>⟨v,H',J.os,J.bare,J.base,J.hok,rv,q⟩
 cases fl with
 | ret u=> obtain⟨v,σ',H',J,rv,q⟩:=hs;exact fin J rv q
 | next=> obtain⟨σ',H',J,q⟩:=hs;exact fin (v:=V.non) (u:=Value.none) J rfl q
 | brk=> obtain⟨_,_,_,q⟩:=hs;exact a6X q
 | cont=> obtain⟨_,_,_,q⟩:=hs;exact a6X q
section
variable {X:Cx}{x:Str}{p pos:Pos}{e:Expr}{es:List Expr}{t:TA}{id T:String}{r:List V->Hp->VK->Prop}
def tCB (r:List V->Hp->VK->Prop) (t:TA):TE:=λσ H Q=>t σ H λvs H1=>r vs H1 Q
theorem C0 (hc:B4 X (.builtin id) r) (hg:Gl X x) (hm:X.mg x=none) (hv:bootBuiltins x=some (.builtin id)) (ha:PA X (e::es) t) (hn:x ≠ "__name__" := by decide) (eJ:(x==("__debug__":Str))=false:=by decide)
   (he:starEach (e::es) X.env=(false,eval e X.env)::starEach es X.env:=by rfl) (e7:(backTo pos (starEach es X.env)).any (·.1)=false:=by rfl):PE X (.Call (.Name x p) (e::es) [] pos) (tCB r t):=by intro pins s σ H Q I h;refine wpAny_Call_Name_kw (KG I hg hm hv ?_ hn eJ);exact PyProof.Rows.callWith_builtin1 (thn (ha pos pins s σ H _ I h) λus s1 ⟨vs,H1,I1,r1,q1⟩=>hc pins s1 σ H1 vs us Q I1 r1 q1) he e7
theorem F3 (hc:B4 X (.type T) r) (hg:Gl X x) (hm:X.mg x=none) (hv:bootBuiltins x=some (.type T)) (ha:PA X (e::es) t) (hn:x ≠ "__name__" := by decide) (eJ:(x==("__debug__":Str))=false:=by decide)
   (he:starEach (e::es) X.env=(false,eval e X.env)::starEach es X.env:=by rfl) (e7:(backTo pos (starEach es X.env)).any (·.1)=false:=by rfl):PE X (.Call (.Name x p) (e::es) [] pos) (tCB r t):=by intro pins s σ H Q I h;refine wpAny_Call_Name_kw (KG I hg hm hv ?_ hn eJ);exact PyProof.Rows.callWith_type1 (thn (ha pos pins s σ H _ I h) λus s1 ⟨vs,H1,I1,r1,q1⟩=>hc pins s1 σ H1 vs us Q I1 r1 q1) he e7
end
end L2
namespace HT
open PySem PyProof.Rows
section
variable {prog:Program}{w:World}{A:Around}{E:Value->Shared->Prop}{s:Shared}
def sIx (n d:Nat):Option Int->Nat
 | none=>d
 | some v=>if v < 0 then (v+(n:Int)).toNat else min v.toNat n
theorem sIx_nat (n d k:Nat):sIx n d (some (k:Int))=min k n:=by show(if (k:Int) < 0 then ((k:Int)+(n:Int)).toNat else min (k:Int).toNat n)=min k n;rw[if_neg (by lia),b0Z]
theorem Y8 (n d:Nat) (hd:d<=n) (o:Option Int):sIx n d o<=n:=by
 cases o with
 | none=>exact hd
 | some v=>
   show(if v < 0 then (v+(n:Int)).toNat else min v.toNat n)<=n;by_cases hv:v < 0;. rw[if_pos hv];lia
   . rw[if_neg hv];exact Nat.min_le_right _ _
theorem OR (v:Int) (n d:Nat):(if v < 0 then max (v+(n:Int)) 0 else min v (n:Int))=((sIx n d (some v):Nat):Int):=by
 show(if v < 0 then max (v+(n:Int)) 0 else min v (n:Int))=(((if v < 0 then (v+(n:Int)).toNat else min v.toNat n):Nat):Int);by_cases hv:v < 0;. simp only[if_pos hv];lia
 . simp only[if_neg hv];lia
theorem NP (lo hi:Option Int) (n:Nat):a7K lo hi 1 (n:Int)=(((sIx n 0 lo:Nat):Int),((sIx n n hi:Nat):Int)):=by
 have h1:¬((1:Int) < 0):=by lia
 unfold a7K;simp only[h1,if_false];refine Prod.ext ?_ ?_
 . cases lo with
   | none=>rfl
   | some v=>exact OR v n 0
 . cases hi with
   | none=>rfl
   | some v=>exact OR v n n
theorem NQ (i j:Nat):a4Z (i:Int) (j:Int) 1=j - i:=by
 unfold a4Z;have h1:(1:Int) > 0:=by lia
 simp only[h1,if_true,Int.ediv_one];split <;> lia
theorem ID {v:Value}{o:Option Int}{Q:Option Int->Shared->Prop}(p:IsPart v o) (h:Q o s):wpAny (model prog w) A (Builtin.Slice.slicePartIndex v) Q E s:=by
 cases p with
 | none=>exact slicePart_none h
 | int i t=>exact slicePart_int h
theorem DQ {sl:Addr}{vl vu:Value}{lo hi:Option Int}{n:Nat}{Q:Int×Int×Nat->Shared->Prop}(hs:s.heap.IsSliceOf sl vl vu .none) (pl:IsPart vl lo) (pu:IsPart vu hi) (h:Q (((sIx n 0 lo:Nat):Int),1,sIx n n hi - sIx n 0 lo) s):wpAny (model prog w) A (Builtin.Slice.sliceApplied (.ref sl) (pure (n:Int))) Q E s:=by obtain⟨os,fu,g_,fJ⟩:=id hs;unfold Builtin.Slice.sliceApplied Builtin.Slice.sliceFields;refine zZ (zZ (wpAny_field fu fJ (x:=vl) rfl (zZ (wpAny_field fu fJ (x:=vu) rfl (zZ (wpAny_field fu fJ (x:=.none) rfl (zY ?_)))))));refine zZ (slicePart_none ?_);show wpAny _ _ (if ((1:Int)==0)=true then _ else _) _ _ s;rw[if_neg (by decide)];refine zZ (ID pl (zZ (ID pu (zZ (zY ?_)))));show wpAny _ _ (match a7K lo hi 1 (n:Int) with | (lo,hi)=>pure (lo,(1:Int),a4Z lo hi 1)) _ _ s;rw[NP lo hi n];show wpAny _ _ (pure (((sIx n 0 lo:Nat):Int),(1:Int),a4Z ((sIx n 0 lo:Nat):Int) ((sIx n n hi:Nat):Int) 1)) _ _ s;rw[NQ];exact zY h
theorem RL (xs:Array Value) (i k:Nat):((a3X k).filterMap λ(m:Nat)=>xs[((i:Int)+(m:Int)*1).toNat]?).toArray=((xs.toList.drop i).take k).toArray:=by
 have e:(λ(m:Nat)=>xs[((i:Int)+(m:Int)*1).toNat]?)=λm=>xs[i+m]?:=by
   funext m;have:((i:Int)+(m:Int)*1).toNat=i+m:=by lia
   rw[this]
 rw[e];have:=pick_run xs i k;rw[List.filterMap_map] at this;have e2:((λx=>xs[x]?)∘λx=>i+x)=λm=>xs[i+m]?:=rfl;rw[e2] at this;rw[this]
theorem getItem_tuple_cut {t sl:Addr}{items:Array Value}{vl vu:Value}{lo hi:Option Int}{Q:Value->Shared->Prop}(ht:IsTup s.heap t items) (hs:s.heap.IsSliceOf sl vl vu .none) (pl:IsPart vl lo) (pu:IsPart vu hi) (hw:¬(sIx items.size 0 lo=0/\sIx items.size items.size hi=items.size)) (h:Q (.ref s.heap.objs.size) { s with heap:=s.heap.push { cls:=.type "tuple", data:=.seq ((items.toList.drop (sIx items.size 0 lo)).take (sIx items.size items.size hi - sIx items.size 0 lo)).toArray } }) (hsz:items.size<=sizeLine):wpAny (model prog w) A (getItem (.ref t) (.ref sl)) Q E s:=by
 have dJ:sizeOk (.seq ((items.toList.drop (sIx items.size 0 lo)).take (sIx items.size items.size hi - sIx items.size 0 lo)).toArray):=by show((items.toList.drop (sIx items.size 0 lo)).take (sIx items.size items.size hi - sIx items.size 0 lo)).toArray.size<=sizeLine;rw[zJ,a5K,a4Q,Array.length_toList];lia
 have hj:sIx items.size items.size hi<=items.size:=Y8 _ _ (zR _) hi;obtain⟨os,fu,g_,fJ⟩:=id hs;have gU:s.TypeIs (.ref sl) "slice" := ⟨os,fu,g_⟩
 unfold getItem;try with_reducible refine wpAny_holding ?_
 first | refine zZ (zY ?_) | skip
 refine zZ (wpAny_sequenceKey ht.typeIs (by decide) ?_);refine zZ (wpAny_callSpecial?_slot (name:=a0Q "__getitem__") ht.typeIs a3K (wpAny_call_entry a3K ht.typeIs entry_tuple_getitem ?_ (args_tuple_getitem _ _)));show wpAny _ _ (Builtin.Tuple.tupleItemsOf (.ref t) >>= _) _ _ s;refine zZ (tupleItemsOf_ ht ?_);refine zZ (wpAny_typeOf gU ?_);rw[if_pos (by decide)];refine zZ (DQ hs pl pu ?_);have gV:¬((((sIx items.size 0 lo:Nat):Int)==0&&(1:Int)==1&&(sIx items.size items.size hi - sIx items.size 0 lo)==items.size)=true):=by intro q;rw[a0W,a0W] at q;have q1:((sIx items.size 0 lo:Nat):Int)=0:=eq_of_beq q.1.1;have q2:sIx items.size items.size hi - sIx items.size 0 lo=items.size:=eq_of_beq q.2;exact hw ⟨by lia,by lia⟩
 show wpAny _ _ (if (((sIx items.size 0 lo:Nat):Int)==0&&(1:Int)==1&&(sIx items.size items.size hi - sIx items.size 0 lo)==items.size)=true then _ else _) _ _ s;rw[if_neg gV,RL];first
   | exact zZ (m:=a4J _) (xN (zY ⟨_,rfl,zY h⟩) dJ)
   | exact zZ (m:=a4J _) (xN (zZ (zY (zY ⟨_,rfl,zY h⟩))) dJ)
   | exact zZ (zZ (m:=a4J _) (xN (zY (zY ⟨_,rfl,zY h⟩)) dJ))
   | exact zZ (zZ (m:=a4J _) (xN (zY ⟨_,rfl,zY h⟩) dJ))
end
end HT
namespace L2
open PySem PySem.Spec PyProof.Rows
abbrev TO:=St->Hp->(Option Int->Hp->Prop)->Prop
def PO (X:Cx) (e:Option Expr) (t:TO):Prop:=∀(pins:List (Addr×Obj)) (s:Shared) (σ:St) (H:Hp) (Q:Option Int->Hp->Prop),Inv X pins σ H s->t σ H Q ->
   wpAny (model X.prog X.w) X.A (evalPart e X.env) (λu s'=>∃o H',Inv X pins σ H' s'/\IsPart u o/\Q o H') X.xe s
def OS:TO:=λ_ H Q=>Q none H
def WP (t:TE):TO:=λσ H Q=>t σ H λx H1=>∃i,x = .int i/\Q (some i) H1
section
variable {X:Cx}{e:Expr}{te:TE}{lo hi:Option Expr}{tl th:TO}{pos p2:Pos}
theorem UN:PO X none OS:=by intro pins s σ H Q I h;rw[evalPart_none];exact zY ⟨none,H,I,.none,h⟩
theorem UO (h:PE X e te):PO X (some e) (WP te):=by intro pins s σ H Q I hw;rw[evalPart_some];refine thn (h pins s σ H _ I hw) λu s1 ⟨x,H1,I1,r1,q1⟩=>?_;obtain⟨i,rfl,q⟩:=q1;obtain⟨t,rfl⟩:=r1;exact⟨some i,H1,I1,.int i t,q⟩
def SlR (X:Cx) (r:V->Option Int->Option Int->Hp->VK->Prop):Prop:=∀(pins:List (Addr×Obj)) (s:Shared) (σ:St) (H:Hp) (x:V) (v vl vu:Value) (lo hi:Option Int) (sl:Addr) (Q:VK),Inv X pins σ H s->RelV x v->s.heap.IsSliceOf sl vl vu .none->IsPart vl lo->IsPart vu hi->r x lo hi H Q ->∃T id,typeLookup (.type T) "__getitem__"=pure (some (.builtin id))/\s.TypeIs v T/\wpAny (model X.prog X.w) X.A (getItem v (.ref sl)) (EP X pins σ Q) X.xe s
theorem SlR.or {r r':V->Option Int->Option Int->Hp->VK->Prop}(h:SlR X r) (h':SlR X r'):SlR X (λx lo hi H Q=>r x lo hi H Q\/r' x lo hi H Q):=by
 intro pins s σ H x v vl vu lo hi sl Q I rx hs pl pu q;rcases q with q | q;. exact h pins s σ H x v vl vu lo hi sl Q I rx hs pl pu q
 . exact h' pins s σ H x v vl vu lo hi sl Q I rx hs pl pu q
def tSl (r:V->Option Int->Option Int->Hp->VK->Prop) (te:TE) (tl th:TO):TE:=λσ H Q=>te σ H λx H1=>tl σ H1 λl H2=>th σ H2 λu H3=>r x l u H3 Q
theorem RM {r:V->Option Int->Option Int->Hp->VK->Prop}(hr:SlR X r) (he:PE X e te) (hl:PO X lo tl) (hu:PO X hi th):PE X (.Subscript e (.Slice lo hi none p2) pos) (tSl r te tl th):=by intro pins s σ H Q I h;refine Subscript_ (thn (he pins s σ H _ I h) λv s1 ⟨x,H1,I1,r1,q1⟩=>?_);refine wpAny_Slice (thn (hl pins s1 σ H1 _ I1 q1) λvl s2 ⟨l,H2,I2,pl,q2⟩=>thn (hu pins s2 σ H2 _ I2 q2) λvu s3 ⟨u,H3,I3,pu,q3⟩=>?_);rw[evalPart_none];refine zY ?_;have I4:Inv X pins σ H3 { s3 with heap:=s3.heap.push { cls:=.type "slice", data:=.fields #[vl,vu,.none] } }:=I3.kept (t':=s3.toks) λb ob q=>zW _ q;obtain⟨T,id,hT,ht,hg⟩:=hr pins { s3 with heap:=s3.heap.push { cls:=.type "slice", data:=.fields #[vl,vu,.none] } } σ H3 x v vl vu l u s3.heap.objs.size Q I4 r1 (Heap.IsSliceOf.new ..) pl pu q3;show wpAny (model X.prog X.w) X.A (subscriptTail e (.Slice lo hi none p2) v (.ref s3.heap.objs.size)) (EP X pins σ Q) X.xe { s3 with heap:=s3.heap.push { cls:=.type "slice", data:=.fields #[vl,vu,.none] } };exact tail_any (ops:=[.ref s3.heap.objs.size,v]) ht hT hg (by with_unfolding_all rfl)
def HM (xs:List V) (lo hi:Option Int):List V:=(xs.drop (HT.sIx xs.length 0 lo)).take (HT.sIx xs.length xs.length hi - HT.sIx xs.length 0 lo)
theorem HC (xs:List V) (lo hi:Option Int):(HM xs lo hi).length<=xs.length:=by unfold HM;rw[a5K,a4Q];lia
def cT (K:Frg):V->Option Int->Option Int->Hp->VK->Prop:=λx lo hi H Q=>∃a xs,x = .ref a/\SqT K H a xs /\
 ¬(HT.sIx xs.length 0 lo=0/\HT.sIx xs.length xs.length hi=xs.length)/\∀p,H p=none->Q (.ref p) (upd H p (.tup (HM xs lo hi)))
theorem Y9:SlR X (cT X.K):=by
 intro pins s σ H x v vl vu lo hi sl Q I rx hs pl pu h;obtain⟨a,xs,rfl,hx,hw,q⟩:=h;cases rx;obtain⟨aa,r,ht,hz⟩:=I.tuple hx;have ac:aa.toArray.size=xs.length:=by rw[zJ];exact r.length.symm
 refine⟨"tuple", _,PyProof.Rows.slot_tuple_getitem.lookup,ht.typeIs,?_⟩;refine HT.getItem_tuple_cut ht hs pl pu (by rw[ac];exact hw) ?_ (by rw[ac];exact hz);rw[ac];refine⟨.ref s.heap.objs.size,_,I.laid (t':=s.toks) (o:=.tup (HM xs lo hi)) (λb ob q=>zW _ q) (zR _) ?_,rfl,q _ (I.hok.fresh (zR _))⟩;exact⟨zN (HC xs lo hi) hz,_,(r.drop (HT.sIx xs.length 0 lo)).take (HT.sIx xs.length xs.length hi - HT.sIx xs.length 0 lo),IsTup.new _ _⟩
end
def ixN (n:Nat) (i:Int):Option Nat:=if 0<=i then (if i < n then some i.toNat else none) else if -(n:Int)<=i then some (i+n).toNat else none
def atI {α:Type}(xs:List α) (i:Int):Option α:=(ixN xs.length i).bind λj=>xs[j]?
theorem OT {n:Nat}{i:Int}{j:Nat}(h:ixN n i=some j):seqIndex? i n=some j/\j < n/\-(n:Int)<=i/\i < n:=by
 unfold ixN at h;by_cases h0:0<=i
 . rw[if_pos h0] at h;by_cases h1:i < n;. rw[if_pos h1] at h;have e:i.toNat=j:=Option.some.inj h;exact⟨by rw[seqIndex_of h0 h1,e],by lia,by lia,h1⟩
   . rw[if_neg h1] at h;cases h
 . rw[if_neg h0] at h;by_cases h1 : -(n:Int)<=i;. rw[if_pos h1] at h;have e:(i+n).toNat=j:=Option.some.inj h;exact⟨by rw[seqIndex_neg (by lia) h1,e],by lia,h1,by lia⟩
   . rw[if_neg h1] at h;cases h
theorem KJ {α:Type}{xs:List α}{i:Int}{v:α}(h:atI xs i=some v):∃j,seqIndex? i xs.length=some j/\xs[j]?=some v/\j < xs.length/\-(xs.length:Int)<=i/\i < xs.length:=by
 unfold atI at h;cases e:ixN xs.length i with
 | none=>rw[e] at h;cases h
 | some j=> rw[e] at h;obtain⟨h1,h2,h3,h4⟩:=OT e;exact⟨j,h1,h,h2,h3,h4⟩
theorem AF {α:Type}{xs:List α}{j:Nat}{v:α}(h:xs[j]?=some v):atI xs (j:Int)=some v:=by
 have hj:j < xs.length:=(yU.mp h).1;have e:ixN xs.length (j:Int)=some j:=by unfold ixN;rw[if_pos (by lia),if_pos (by lia)];simp
 unfold atI;rw[e];exact h
def UP (b:Expr):Prop:=∀o i,subscripted b false o i=operate [o,i] (getItem o i)
def IxR (X:Cx) (r:R2):Prop:=∀(value slice:Expr) (pins:List (Addr×Obj)) (s:Shared) (σ:St) (H:Hp) (x y:V) (v u:Value) (Q:VK),Inv X pins σ H s->RelV x v->RelV y u->r x y H Q ->
   subscripted slice false v u=operate [v,u] (getItem v u)->wpAny (model X.prog X.w) X.A (subscriptTail value slice v u) (EP X pins σ Q) X.xe s
def MtR (X:Cx) (id:String) (r:V->List V->Hp->VK->Prop):Prop:=∀(pins:List (Addr×Obj)) (s:Shared) (σ:St) (H:Hp) (x:V) (xs:List V) (v:Value) (us:List Value) (Q:VK),Inv X pins σ H s->RelV x v->Vals xs us->r x xs H Q ->
   wpAny (model X.prog X.w) X.A (call (.builtin id) (v::us)) (EP X pins σ Q) X.xe s
section
variable {X:Cx}{a b:Expr}{ta tb:TE}{pos:Pos}
theorem IxR.or {r r':R2}(h:IxR X r) (h':IxR X r'):IxR X (λx y H Q=>r x y H Q\/r' x y H Q):=by
 intro value slice pins s σ H x y v u Q I rx ry q hs;rcases q with q | q;. exact h value slice pins s σ H x y v u Q I rx ry q hs
 . exact h' value slice pins s σ H x y v u Q I rx ry q hs
theorem aZ {r:R2}(hr:IxR X r) (ha:PE X a ta) (hb:PE X b tb) (hs:UP b):PE X (.Subscript a b pos) (tOp r ta tb):=by intro pins s σ H Q I h;exact Subscript_ (XV ha hb I h λv u s2 x y H2 I2 rx ry q=>hr a b pins s2 σ H2 x y v u Q I2 rx ry q (hs _ _))
def UQ (K:Frg):R2:=λx y H Q=>∃p xs i v,x = .ref p/\y = .int i/\SqL K H p xs/\atI xs i=some v/\Q v H
def YA (K:Frg):R2:=λx y H Q=>∃p xs i v,x = .ref p/\y = .int i/\SqT K H p xs/\atI xs i=some v/\Q v H
def YB:R2:=λx y H Q=>∃z i c,x = .str z/\y = .int i/\z.length<=sizeLine/\atI z.cps.toList i=some c/\Q (.str ⟨#[c]⟩) H
theorem UR:IxR X (UQ X.K):=by
 intro value slice pins s σ H x y v u Q I rx ry h hs;obtain⟨p,xs,i,z,rfl,rfl,hq,he,q⟩:=h;cases rx;obtain⟨t,rfl⟩:=ry;obtain⟨aa,r,pl,hz⟩:=I.list hq;obtain⟨j,h1,h2,h3,h4,h5⟩:=KJ he;obtain⟨w,ew,cv⟩:=r.get h2;have hl:=r.length;have hn:=IC;have fin:EP X pins σ Q w s:=⟨z,H,I,cv,q⟩
 by_cases h0:0<=i
 . have hj:i.toNat=j:=by rw[seqIndex_of h0 h5] at h1;exact Option.some.inj h1
   exact item_listR pl.isList h0 (by lia) (by rw[hj];simpa using ew) fin hs
 . have hj:(i+(aa.toArray.size:Int)).toNat=j:=by rw[seqIndex_neg (by lia) h4] at h1;rw[zJ,<-hl];exact Option.some.inj h1
   exact subscriptTail_builtinR (x:=w) pl.isList.typeIs slot_list_getitem.lookup (wpAny_getItem_list_neg (Q:=λr s'=>r=w/\EP X pins σ Q r s') pl.isList (by lia) (by rw[zJ] <;> lia) (by lia) (by rw[hj];simpa using ew) ⟨rfl,fin⟩) hs
theorem YC:IxR X (YA X.K):=by
 intro value slice pins s σ H x y v u Q I rx ry h hs;obtain⟨p,xs,i,z,rfl,rfl,hq,he,q⟩:=h;cases rx;obtain⟨t,rfl⟩:=ry;obtain⟨aa,r,pl,hz⟩:=I.tuple hq;obtain⟨j,h1,h2,h3,h4,h5⟩:=KJ he;obtain⟨w,ew,cv⟩:=r.get h2;have hl:=r.length;have hn:=IC;have fin:EP X pins σ Q w s:=⟨z,H,I,cv,q⟩
 exact subscriptTail_builtinR (x:=w) pl.typeIs slot_tuple_getitem.lookup (getItem_tuple (j:=j) (Q:=λr s'=>r=w/\EP X pins σ Q r s') pl (by lia) (by lia) (by rw[zJ,<-hl];exact h1) (by simpa using ew) ⟨rfl,fin⟩) hs
theorem YD:IxR X YB:=by
 intro value slice pins s σ H x y v u Q I rx ry h hs;obtain⟨z,i,c,rfl,rfl,hz,he,q⟩:=h;obtain⟨t,rfl⟩:=rx;obtain⟨t',rfl⟩:=ry;obtain⟨j,h1,h2,h3,h4,h5⟩:=KJ he;have hl:z.cps.toList.length=z.length:=by simp[Str.length]
 rw[hl] at h1 h4 h5;have hn:=IC;exact tail_any (typeIs_str s z t) slot_str_getitem.lookup (getItem_str (c:=c) (by
   have e1:decide (i < -(2 ^ 63:Int))=false:=decide_eq_false (by lia);have e2:decide (i≥2 ^ 63)=false:=decide_eq_false (by lia);rw[e1,e2,Bool.or_false]) (by rw[h1];simpa using h2) ⟨.str ⟨#[c]⟩,H,I.tok _,⟨_,rfl⟩,q⟩) hs
theorem NR (aa:List Value) (n j:Nat) (u:Value):a6K (·.setIfInBounds j u) { cls:=.type "list", data:=.seq aa.toArray n }={ cls:=.type "list", data:=.seq (aa.set j u).toArray n }:=by simp[a6K]
theorem Inv.lst {pins:List (Addr×Obj)}{σ:St}{H:Hp}{s:Shared}{p:Addr}{xs:List V}(I:Inv X pins σ H s) (h:H p=some (.lst xs)) : ∃(aa:List Value) (n:Nat),Vals xs aa/\s.heap.get? p=some { cls:=.type "list", data:=.seq aa.toArray n }/\xs.length<=sizeLine:=by obtain⟨z,aa,n,r,e⟩:=I.hok p _ h;exact⟨aa,n,r,e,z⟩
theorem Inv.lstUpd {pins:List (Addr×Obj)}{σ:St}{H:Hp}{s:Shared}{p:Addr}{xs ys:List V}{aa its':List Value}{n n':Nat}{f:Obj->Obj}(I:Inv X pins σ H s) (h:H p=some (.lst xs)) (ho:s.heap.get? p=some { cls:=.type "list", data:=.seq aa.toArray n }) (hf:f { cls:=.type "list", data:=.seq aa.toArray n }={ cls:=.type "list", data:=.seq its'.toArray n' }) (r:Vals ys its') (hz:ys.length<=sizeLine) (t:Nat) :
   Inv X pins σ (upd H p (.lst ys)) { s with heap:=s.heap.update p f,toks:=t }:=by
 have e:(s.heap.update p f).get? p=some { cls:=.type "list", data:=.seq its'.toArray n' }:=by rw[Heap.get?_update_self f ho (by rw[hf] <;> rfl),hf]
 refine I.write (x:=p) (e:=p) (by rw[h];trivial) (.inl rfl) (λb u hb q=>(Heap.get?_update_other _ _ (a5J hb)).trans q) ⟨_,e⟩ ?_;exact⟨hz,its',n',r,e⟩
def WQ:V->V->V->Hp->(Hp->Prop)->Prop:=λo i v H Q=>∃p xs k j,o = .ref p/\i = .int k/\H p=some (.lst xs)/\ixN xs.length k=some j/\Q (upd H p (.lst (xs.set j v)))
theorem RN:aM X WQ:=by
 intro pins s σ H o i v ov iv u Q I ro ri rv h;obtain⟨p,xs,k,j,rfl,rfl,hp,hj,q⟩:=h;cases ro;obtain⟨t,rfl⟩:=ri;obtain⟨aa,n,r,ho,hz⟩:=I.lst hp;obtain⟨h1,h2,h3,h4⟩:=OT hj;have hl:=r.length;have hn:=IC;have I':Inv X pins σ (upd H p (.lst (xs.set j v))) { s with heap:=s.heap.update p (a6K (·.setIfInBounds j u)) }:=
   I.lstUpd hp ho (NR aa n j u) (r.set rv j) (by rw[List.length_set];exact hz) s.toks;by_cases h0:0<=k
 . have hk:k.toNat=j:=by rw[seqIndex_of h0 h4] at h1;exact Option.some.inj h1
   exact PySem.W.ki_setAt ho h0 (by lia) (by rw[zJ,<-hl];exact h4) (by rw[hk];exact⟨_,I',q⟩)
 . have hk:(k+(aa.toArray.size:Int)).toNat=j:=by rw[seqIndex_neg (by lia) h3] at h1;rw[zJ,<-hl];exact Option.some.inj h1
   exact PySem.W.ki_setBack ho (by lia) (by rw[zJ,<-hl];exact h3) (by lia) (by rw[hk];exact⟨_,I',q⟩)
theorem KK (lo hi:Option Int) (n:Nat):(sliceBounds lo hi none n).1=((HT.sIx n 0 lo:Nat):Int)/\(sliceBounds lo hi none n).2.1=((HT.sIx n n hi:Nat):Int)/\(sliceBounds lo hi none n).2.2=1:=by
 refine⟨?_,?_,rfl⟩
 . cases lo with
   | none=>simp[sliceBounds,HT.sIx]
   | some i=>
     simp only[sliceBounds,HT.sIx,Option.getD_none,show(1:Int) > 0 by decide,if_true];by_cases h:i < 0;. simp only[h,if_true] <;> lia
     . simp only[h,if_false] <;> lia
 . cases hi with
   | none=>simp[sliceBounds,HT.sIx]
   | some i=>
     simp only[sliceBounds,HT.sIx,Option.getD_none,show(1:Int) > 0 by decide,if_true];by_cases h:i < 0;. simp only[h,if_true] <;> lia
     . simp only[h,if_false] <;> lia
theorem JG (aa:List Value) (lo hi:Option Int):slicePick aa.toArray lo hi none=((aa.drop (HT.sIx aa.length 0 lo)).take (HT.sIx aa.length aa.length hi - HT.sIx aa.length 0 lo)).toArray:=by obtain⟨h1,h2,h3⟩:=KK lo hi aa.toArray.size;unfold slicePick;rw[h1,h2,h3];simp only[sliceRange_one,pick_run,zJ] <;> rfl
def bA (K:Frg):V->Option Int->Option Int->Hp->VK->Prop:=λx lo hi H Q=>∃a xs,x = .ref a/\SqL K H a xs/\∀p,H p=none->Q (.ref p) (upd H p (.lst (HM xs lo hi)))
theorem US:SlR X (bA X.K):=by intro pins s σ H x v vl vu lo hi sl Q I rx hs pl pu h;obtain⟨a,xs,rfl,hx,q⟩:=h;cases rx;obtain⟨aa,r,ht,hz⟩:=I.list hx;have ac:=r.length;refine⟨"list", _,slot_list_getitem.lookup,ht.isList.typeIs,?_⟩;refine wpAny_getItem_list_slice ht.isList hs pl pu .none (by simp) ?_ (by rw[zJ] <;> lia);rw[JG,<-ac];refine⟨.ref s.heap.objs.size,_,I.laid (t':=s.toks) (o:=.lst (HM xs lo hi)) (λb ob q=>zW _ q) (zR _) ?_,rfl,q _ (I.hok.fresh (zR _))⟩;exact⟨zN (HC xs lo hi) hz,_,0,(r.drop (HT.sIx xs.length 0 lo)).take (HT.sIx xs.length xs.length hi - HT.sIx xs.length 0 lo),yZ _ rfl⟩
def FK:V->Bool
 | .non=>true
 | .bl _=>true
 | .int _=>true
 | .str _=>true
 | _=>false
def eqV:V->V->Bool
 | .non,.non=>true
 | .bl a,.bl b=>a==b
 | .bl a,.int b=>(if a then 1 else 0)==b
 | .int a,.bl b=>a==(if b then 1 else 0)
 | .int a,.int b=>a==b
 | .str a,.str b=>a==b
 | _,_=>false
theorem YE {A:Around}{s:Shared}{y x:V}{u v:Value}(ry:RelV y u) (rx:RelV x v) (fy:FK y=true) (fx:FK x=true):SeqAt.EqAt A s u v (eqV y x):=by
 cases y with
 | non=>
   cases ry;cases x with
   | non=>cases rx;exact SeqAt.EqAt.same _
   | bl b=>cases rx;exact SeqAt.EqAt.none_bool b
   | int b=>obtain⟨t,rfl⟩:=rx;exact SeqAt.EqAt.none_int b t
   | str b=>obtain⟨t,rfl⟩:=rx;exact SeqAt.EqAt.none_str b t
   | _=>exact absurd (show false=true from fx) nft
 | bl a=>
   cases ry;cases x with
   | non=>cases rx;exact SeqAt.EqAt.bool_none a
   | bl b=>cases rx;exact SeqAt.EqAt.bool_bool a b
   | int b=>obtain⟨t,rfl⟩:=rx;exact SeqAt.EqAt.bool_int a b t
   | str b=>obtain⟨t,rfl⟩:=rx;exact SeqAt.EqAt.bool_str a b t
   | _=>exact absurd (show false=true from fx) nft
 | int a=>
   obtain⟨t',rfl⟩:=ry;cases x with
   | non=>cases rx;exact SeqAt.EqAt.int_none a t'
   | bl b=>cases rx;exact SeqAt.EqAt.int_bool a t' b
   | int b=>obtain⟨t,rfl⟩:=rx;exact SeqAt.EqAt.int_int a t' b t
   | str b=>obtain⟨t,rfl⟩:=rx;exact SeqAt.EqAt.int_str a t' b t
   | _=>exact absurd (show false=true from fx) nft
 | str a=>
   obtain⟨t',rfl⟩:=ry;cases x with
   | non=>cases rx;exact SeqAt.EqAt.str_none a t'
   | bl b=>cases rx;exact SeqAt.EqAt.str_bool a t' b
   | int b=>obtain⟨t,rfl⟩:=rx;exact SeqAt.EqAt.str_int a t' b t
   | str b=>obtain⟨t,rfl⟩:=rx;exact SeqAt.EqAt.str_str a t' b t
   | _=>exact absurd (show false=true from fx) nft
 | _=>exact absurd (show false=true from fy) nft
def eqU (x:V) (u:Value):Bool:=match u with
 | .none=>eqV .non x
 | .bool b=>eqV (.bl b) x
 | .int i _=>eqV (.int i) x
 | .str z _=>eqV (.str z) x
 | _=>false
theorem RO {x y:V}{u:Value}(r:RelV y u) (f:FK y=true):eqU x u=eqV y x:=by
 cases y with
 | non=>cases r;rfl
 | bl b=>cases r;rfl
 | int i=>obtain⟨t,rfl⟩:=r;rfl
 | str z=>obtain⟨t,rfl⟩:=r;rfl
 | _=>exact absurd (show false=true from f) nft
theorem G0 {x:V}:∀{xs:List V}{us:List Value},Vals xs us->xs.all FK=true->us.any (eqU x)=xs.any λy=>eqV y x
 | _,_,.nil,_=>rfl
 | y::xs,u::us,.cons r t,f=>by rw[List.all_cons,a0W] at f;rw[a6W,a6W,RO r f.1,G0 t f.2]
theorem EK {A:Around}{s:Shared}{x:V}{v:Value}(rx:RelV x v) (fx:FK x=true):∀{xs:List V}{us:List Value},Vals xs us->xs.all FK=true->∀u∈us,SeqAt.EqAt A s u v (eqU x u)
 | _,_,.nil,_=>λu hu=>by cases hu
 | y::xs,u::us,.cons r t,f=>λu' hu=>by
   rw[List.all_cons,a0W] at f;rcases yX.mp hu with rfl | hu;. rw[RO r f.1];exact YE r rx f.1 fx
   . exact EK rx fx t f.2 u' hu
def inV (x:V) (xs:List V):Bool:=xs.any λy=>eqV y x
def rIn (K:Frg) (neg:Bool):R2:=λx y H Q=>∃p xs,y = .ref p/\(SqL K H p xs\/SqT K H p xs)/\FK x=true/\xs.all FK=true/\Q (.bl (if neg then !inV x xs else inV x xs)) H
theorem Q6:OpR X (compareOp .In) (rIn X.K false):=by
 intro pins s σ H x y v u Q I rx ry h;obtain⟨p,xs,rfl,hq,fx,fs,q⟩:=h;cases ry;rcases hq with hq | hq;. obtain⟨aa,r,pl,hz⟩:=I.list hq;refine SeqAt.in_listAt (eqU x) pl.isList (λw hw=>EK rx fx r fs w (by simpa using hw)) ⟨.bl _,H,I,rfl,?_⟩;rw[show aa.toArray.any (eqU x)=aa.any (eqU x) by simp,G0 r fs];exact q
 . obtain⟨aa,r,pl,hz⟩:=I.tuple hq;refine SeqAt.in_tupleAt (eqU x) pl (λw hw=>EK rx fx r fs w (by simpa using hw)) ⟨.bl _,H,I,rfl,?_⟩;rw[show aa.toArray.any (eqU x)=aa.any (eqU x) by simp,G0 r fs];exact q
theorem KL:OpR X (compareOp .NotIn) (rIn X.K true):=by
 intro pins s σ H x y v u Q I rx ry h;obtain⟨p,xs,rfl,hq,fx,fs,q⟩:=h;cases ry;rcases hq with hq | hq;. obtain⟨aa,r,pl,hz⟩:=I.list hq;refine SeqAt.notIn_listAt (eqU x) pl.isList (λw hw=>EK rx fx r fs w (by simpa using hw)) ⟨.bl _,H,I,rfl,?_⟩;rw[show aa.toArray.any (eqU x)=aa.any (eqU x) by simp,G0 r fs];exact q
 . obtain⟨aa,r,pl,hz⟩:=I.tuple hq;refine SeqAt.notIn_tupleAt (eqU x) pl (λw hw=>EK rx fx r fs w (by simpa using hw)) ⟨.bl _,H,I,rfl,?_⟩;rw[show aa.toArray.any (eqU x)=aa.any (eqU x) by simp,G0 r fs];exact q
theorem KM:B4 X (.type "list") (λxs H Q=>∃p ys,xs=[.ref p]/\(SqL X.K H p ys\/SqT X.K H p ys)/\∀l,H l=none->Q (.ref l) (upd H l (.lst ys))):=by
 intro pins s σ H xs us Q I r h;obtain⟨p,ys,rfl,hq,q⟩:=h;obtain⟨u,rfl,rx⟩:=FZ r;cases rx;have fin:∀(aa:List Value),Vals ys aa->ys.length<=sizeLine->∀(h':Heap) (c':Nat),(∀b o',s.heap.get? b=some o'->h'.get? b=some o') ->
     h'.get? s.heap.objs.size=some { cls:=.type "list", dict:=none,data:=.seq aa.toArray c',slots:=#[] }->EP X pins σ Q (.ref s.heap.objs.size) { s with heap:=h' }:=λaa r' hz h' c' kp e=>
   ⟨.ref s.heap.objs.size,_,I.laid (t':=s.toks) kp (zR _) (show ObjOk X.prog X.w _ h' _ (.lst ys) from ⟨hz,aa,c',r',e⟩),rfl,q _ (I.hok.fresh (zR _))⟩
 rcases hq with hq | hq;. obtain⟨aa,r',pl,hz⟩:=I.list hq;have ac:=r'.length;obtain⟨o,ho,hc,n,hd⟩:=pl.isList;exact call_list_seq p (.inl rfl) ho hc hd (λh' c' kp e=>fin aa r' hz h' c' kp e) (by simp only[zJ] <;> lia)
 . obtain⟨aa,r',pl,hz⟩:=I.tuple hq;have ac:=r'.length;obtain⟨o,ho,hc,n,hd⟩:=pl;exact call_list_seq p (.inr rfl) ho hc hd (λh' c' kp e=>fin aa r' hz h' c' kp e) (by simp only[zJ] <;> lia)
def tyV (K:Frg) (T:String) (x:V) (H:Hp):Prop:=match x with
 | .str _=>T = "str"
 | .int _=>T = "int"
 | .ref p=>(T = "list" /\ ∃xs,SqL K H p xs)\/(T = "tuple" /\ ∃o,K.lookup p=some o/\o.cls = .type "tuple" /\ o.dict=none) \/(T = "dict" /\ ((∃kvs,H p=some (.dK kvs))\/∃kvs,H p=some (.dT kvs)))\/(T = "set" /\ ∃S n,H p=some (.set S n))
 | _=>False
theorem YF {pins:List (Addr×Obj)}{σ:St}{H:Hp}{s:Shared}{T:String}{x:V}{v:Value}(I:Inv X pins σ H s) (r:RelV x v) (ty:tyV X.K T x H) :
   s.TypeIs v T/\∀a,v = .ref a->∃ob,s.heap.get? a=some ob/\ob.dict=none:=by
 cases x with
 | str z=> obtain⟨t,rfl⟩:=r;cases (show T = "str" from ty);exact⟨typeIs_str s z t,λ_ e=>nomatch e⟩
 | int i=> obtain⟨t,rfl⟩:=r;cases (show T = "int" from ty);exact⟨typeIs_int s i t,λ_ e=>nomatch e⟩
 | ref p=>
   cases r;rcases ty with ⟨rfl,xs,hq⟩ | ⟨rfl,o,hk,hc,hd⟩ | ⟨rfl,hk⟩ | ⟨rfl,S,n,hk⟩
   . obtain⟨aa,_,pl,_⟩:=I.list hq;refine⟨pl.isList.typeIs,λa e=>?_⟩;cases e;obtain⟨o,n,e,c,hd,_⟩:=pl;exact⟨o,e,hd⟩
   . refine⟨⟨o,I.kIn p o hk,hc⟩,λa e=>?_⟩;cases e;exact⟨o,I.kIn _ o hk,hd⟩
   . have z:∃o,s.heap.get? p=some o/\o.ExactDict:=by
       rcases hk with ⟨kvs,hk⟩ | ⟨kvs,hk⟩
       . obtain⟨_,_,_,_,o,_,_,e,ex,_⟩:=I.hok p _ hk;exact⟨o,e,ex⟩
       . obtain⟨_,_,_,_,o,_,_,e,ex,_⟩:=I.hok p _ hk;exact⟨o,e,ex⟩
     obtain⟨o,e,ex⟩:=z;refine⟨⟨o,e,ex.1⟩,λa e2=>?_⟩;cases e2;exact⟨o,e,ex.2.1⟩
   . obtain⟨o,_,_,_,e,ex,_⟩:=I.hok p _ hk;refine⟨⟨o,e,ex.1⟩,λa e2=>?_⟩;cases e2;exact⟨o,e,ex.2.1⟩
 | _=>exact a6X ty
def tBM (K:Frg) (T:String) (r:V->List V->Hp->VK->Prop) (to:TE) (t:TA):TE:=λσ H Q=>to σ H λx H1=>tyV K T x H1/\t σ H1 λxs H2=>r x xs H2 Q
variable {o e:Expr}{es:List Expr}{to:TE}{t:TA}{name:Str}{apos ae:Pos}{T id:String}{r:V->List V->Hp->VK->Prop}
theorem bB (pa:PlainAttrs T) (slot:Slot T name id) (fK:typeOf (.builtin id)=pure (.type "method_descriptor")) (hm:MtR X id r) (ho:PE X o to) (ha:PA X (e::es) t) (dZ:attributeBase o name X.env (eval o X.env)=eval o X.env:=by rfl)
   (fv:((backTo ae (starEach (e::es) X.env)).all (λx=>!x.1)&&(backToKw ae (keywordEach [] X.env)).all (λx=>x.1.isSome)
     && decide ((e::es).length+([]:List Keyword).length+(if ([]:List Keyword).isEmpty then 0 else 1) < 30))=true:=by rfl)
   (ed:(apos.endLine==ae.line)=true:=by rfl) (hs:starEach (e::es) X.env=(false,eval e X.env)::starEach es X.env:=by rfl) (cx:(backTo ae (starEach es X.env)).any (·.1)=false:=by rfl) :
   PE X (.Call (.Attribute o name apos) (e::es) [] ae) (tBM X.K T r to t):=by intro pins s σ H Q I h;refine wpAny_Call_method_late dZ fv ed rfl (thn (ho pins s σ H _ I h) λv s1 ⟨x,H1,I1,r1,ty,q1⟩=>?_);obtain⟨h1,h2⟩:=YF I1 r1 ty;refine⟨T,id,pa,slot,fK,h1,h2,?_⟩;have hA:=ha ae pins s1 σ H1 _ I1 q1;rw[hs] at hA ⊢;refine b0J (by show(false||(backTo ae (starEach es X.env)).any (·.1))=false;rw[cx] <;> rfl) (Calls.evalArgs_plain ?_);exact thn hA λus s2 ⟨vs,H2,I2,r2,q2⟩=>hm pins s2 σ H2 x vs v us Q I2 r1 r2 q2
end
def MtM (X:Cx) (id:String) (r:V->List V->Hp->VK->Prop):Prop:=∀(pins:List (Addr×Obj)) (s:Shared) (σ:St) (H:Hp) (x:V) (xs:List V) (v:Value) (us:List Value) (Q:VK),Inv X pins σ H s->RelV x v->Vals xs us->r x xs H Q ->
   wpAny (model X.prog X.w) X.A (call (.builtin id) (v::us)) (EP X pins σ Q) X.xe s
theorem Vals.one:∀{x:V}{us:List Value},Vals [x] us->∃u,us=[u]/\RelV x u
 | _,_,.cons r .nil=>⟨_,rfl,r⟩
section
variable {X:Cx}{pins:List (Addr×Obj)}{σ:St}{H:Hp}{s:Shared}{l b:Addr}{xs ys zs:List V}
theorem Inv.lset {aa its':List Value}{n:Nat}{f:Array Value->Array Value}{t':Nat}(I:Inv X pins σ H s) (hH:H l=some (.lst xs)) (e:s.heap.get? l=some { cls:=.type "list", data:=.seq aa.toArray n }) (hf:f aa.toArray=its'.toArray) (hv:Vals ys its') (hz:ys.length<=sizeLine) :
   Inv X pins σ (upd H l (.lst ys)) { s with heap:=s.heap.update l (a6K f),toks:=t' }:=by have q:=PySem.IsL.update e f;rw[hf] at q;refine I.write (x:=l) (e:=l) (by rw[hH];exact trivial) (.inl rfl) (λb' u hb hu=>(Heap.get?_update_other s.heap (a6K f) (a5J hb)).trans hu) ⟨_,q⟩ ?_;exact⟨hz,its',_,hv,q⟩
theorem Inv.lnew {aa:List Value}{t':Nat}(I:Inv X pins σ H s) (hv:Vals ys aa) (hz:ys.length<=sizeLine) :
   Inv X pins σ (upd H s.heap.objs.size (.lst ys)) { s with heap:=s.heap.push { cls:=.type "list", data:=.seq aa.toArray },toks:=t' }:=
 I.laid (λ_ _ q=>zW _ q) (zR _) ⟨hz,aa,0,hv,yZ _ rfl⟩
theorem Inv.fresh (I:Inv X pins σ H s):H s.heap.objs.size=none:=I.hok.fresh (zR _)
theorem Inv.lstM (I:Inv X pins σ H s) (hH:H l=some (.lst xs)):xs.length<=sizeLine/\∃(aa:List Value) (n:Nat),Vals xs aa/\xs.length=aa.length/\s.heap.get? l=some { cls:=.type "list", data:=.seq aa.toArray n }:=by obtain⟨z,aa,n,r,e⟩:=I.hok l _ hH;exact⟨z,aa,n,r,r.length,e⟩
end
section
variable {X:Cx}
def KN:V->List V->Hp->VK->Prop:=λx vs H Q=>∃l xs y,x = .ref l/\vs=[y]/\H l=some (.lst xs)/\xs.length < sizeLine/\Q .non (upd H l (.lst (xs++[y])))
theorem K0:MtM X "list.append" KN:=by intro pins s σ H x vs v us Q I rx rv h;obtain⟨l,xs,y,rfl,rfl,hH,hz,q⟩:=h;cases rx;obtain⟨u,rfl,ru⟩:=rv.one;obtain⟨z,aa,n,r,hl,e⟩:=I.lstM hH;refine call_meets F.slot_list_append ⟨_,e,rfl⟩ F.entry_list_append (F.args_list_append_2 _ _) (PySem.list_append l aa.toArray n u (by rw[zJ];lia)) ⟨e,?_⟩;refine⟨.non,_,I.lset (its':=aa++[u]) hH e (by simp) (r.append (.cons ru .nil)) ?_,rfl,q⟩;rw[yY,List.length_singleton];lia
end
section
variable {κ:Type}[DecidableEq κ]
def EL (kvs:List (κ×V)) (k:κ):Option V:=(kvs.find? λkv=>decide (kv.1=k)).map (·.2)
def HN (kvs:List (κ×V)) (k:κ) (v:V):List (κ×V):=
 if (kvs.any λkv=>decide (kv.1=k))=true then kvs.map (λkv=>if kv.1=k then (kv.1,v) else kv) else kvs++[(k,v)]
def IE (kvs:List (κ×V)) (k:κ):List (κ×V):=kvs.filter λkv=>decide (kv.1≠k)
theorem G1 {p:κ×V}{r:List (κ×V)}{k:κ}(e:p.1=k):EL (p::r) k=some p.2:=by simp[EL,a4W,e]
theorem EM {p:κ×V}{r:List (κ×V)}{k:κ}(e:¬p.1=k):EL (p::r) k=EL r k:=by simp[EL,a4W,e]
theorem M8 (k:κ):∀kvs:List (κ×V),(kvs.any λkv=>decide (kv.1=k))=(EL kvs k).isSome
 | []=>rfl
 | p::r=>by
   rw[a6W];by_cases e:p.1=k;. simp only[G1 e,decide_eq_true e,Bool.true_or,Option.isSome_some]
   . rw[EM e,decide_eq_false e,Bool.false_or];exact M8 k r
theorem HD (kvs:List (κ×V)) (k:κ) (v:V):(HN kvs k v).length<=kvs.length+1:=by
 unfold HN;split;. rw[zX];lia
 . rw[yY,b0K,List.length_nil];lia
theorem RelO.isSome_eq {o:Option V}{u:Option Value}(r:RelO o u):o.isSome=u.isSome:=by
 cases o with
 | none=>cases u with
   | none=>rfl
   | some _=>exact(show False from r).elim
 | some _=>cases u with
   | none=>exact(show False from r).elim
   | some _=>rfl
theorem RelO.getD {o:Option V}{u:Option Value}{d:V}{d':Value}(r:RelO o u) (rd:RelV d d'):RelV (o.getD d) (u.getD d'):=by
 cases o with
 | none=>cases u with
   | none=>exact rd
   | some _=>exact(show False from r).elim
 | some _=>cases u with
   | none=>exact(show False from r).elim
   | some _=>exact r
theorem KV.val {kvs:List (κ×V)}{vs:List (κ×Value)}(r:KV kvs vs) (k:κ):RelO (EL kvs k) (valueAt vs k):=by
 unfold KV at r;induction r with
 | nil=>exact a6Z
 | @cons p q ps qs h t ih=>
   obtain⟨h1,h2⟩:=h;by_cases e:p.1=k
   . have e':q.1=k:=h1.symm.trans e;have b:valueAt (q::qs) k=some q.2:=by simp[valueAt,a4W,e']
     rw[G1 e,b];exact h2
   . have e':¬q.1=k:=λz=>e (h1.trans z);have b:valueAt (q::qs) k=valueAt qs k:=by simp[valueAt,a4W,e']
     rw[EM e,b];exact ih
theorem KV.any {kvs:List (κ×V)}{vs:List (κ×Value)}(r:KV kvs vs) (k:κ):(kvs.any λkv=>decide (kv.1=k))=vs.any λkv=>decide (kv.1=k):=by
 unfold KV at r;induction r with
 | nil=>rfl
 | cons h t ih=>rw[a6W,a6W,ih,h.1]
theorem KV.repl {kvs:List (κ×V)}{vs:List (κ×Value)}(r:KV kvs vs) (k:κ) {y:V}{u:Value}(ry:RelV y u) :
   KV (kvs.map λkv=>if kv.1=k then (kv.1,y) else kv) (vs.map λkv=>if kv.1=k then (kv.1,u) else kv):=by
 unfold KV at r ⊢;induction r with
 | nil=>exact .nil
 | @cons p q ps qs h t ih=>
   rw[zI,zI];refine .cons ?_ ih;obtain⟨h1,h2⟩:=h;by_cases e:p.1=k;. rw[if_pos e,if_pos (h1.symm.trans e)];exact⟨h1,ry⟩
   . rw[if_neg e,if_neg (λz=>e (h1.trans z))];exact⟨h1,h2⟩
theorem KV.put {kvs:List (κ×V)}{vs:List (κ×Value)}(r:KV kvs vs) (k:κ) {y:V}{u:Value}(ry:RelV y u):KV (HN kvs k y) (stored vs k u):=by
 unfold HN stored;rw[r.any k];by_cases e:(vs.any λkv=>decide (kv.1=k))=true;. rw[if_pos e,if_pos e];exact r.repl k ry
 . rw[if_neg e,if_neg e];exact Paired.snoc r ⟨rfl,ry⟩
theorem KV.drop {kvs:List (κ×V)}{vs:List (κ×Value)}(r:KV kvs vs) (k:κ):KV (IE kvs k) (without vs k):=by
 unfold KV at r ⊢;unfold IE without;induction r with
 | nil=>exact .nil
 | @cons p q ps qs h t ih=>
   obtain⟨h1,h2⟩:=h;rw[a4X,a4X];by_cases e:p.1=k
   . have a:¬decide (p.1≠k)=true:=by simp[e]
     have b:¬decide (q.1≠k)=true:=by simp[h1.symm.trans e]
     rw[if_neg a,if_neg b];exact ih
   . have e':¬q.1=k:=λz=>e (h1.trans z);have a:decide (p.1≠k)=true:=by simp[e]
     have b:decide (q.1≠k)=true:=by simp[e']
     rw[if_pos a,if_pos b];exact .cons ⟨h1,h2⟩ ih
theorem KV.length {kvs:List (κ×V)}{vs:List (κ×Value)}(r:KV kvs vs):kvs.length=vs.length:=Paired.length r
theorem RP (kvs:List (κ×V)) (k:κ):(IE kvs k).length<=kvs.length:=yL _ _
end
theorem K1 {P:Program}{w:World}{k:Key}{u:Value}(r:RelV (kV k) u):(AL P w).is k u=true:=by
 cases k with
 | inl i=>obtain⟨t,e⟩:=(show ∃t,u=Value.int i t from r);subst e;exact LX P w i t
 | inr x=>obtain⟨t,e⟩:=(show ∃t,u=Value.str x t from r);subst e;exact HB P w x t
theorem K2 {P:Program}{w:World}:∀{ks:List Key}{us:List Value},Vals (ks.map kV) us->ItemsAre (AL P w) ks us
 | [],_,r=>by rw[List.map_nil] at r;cases r;exact .nil
 | k::ks,_,r=>by
   rw[zI] at r;cases r with
   | cons h t=>exact .cons (K1 h) (K2 t)
abbrev KT (H:Hp):List (List Key×V)->List (List Key×Addr×Value)->Prop:=Paired λp q=>p.1=q.1/\H q.2.1=some (.tup (p.1.map kV))/\RelV p.2 q.2.2
theorem KT.val {H:Hp}{kvs:List (List Key×V)}{xs:List (List Key×Addr×Value)}(r:KT H kvs xs) (k:List Key):RelO (EL kvs k) ((atKey xs k).map (·.2)):=by
 induction r with
 | nil=>exact a6Z
 | @cons p q ps qs h t ih=>
   obtain⟨h1,_,h2⟩:=h;by_cases e:p.1=k
   . have e':q.1=k:=h1.symm.trans e;have b:atKey (q::qs) k=some q.2:=by simp[atKey,a4W,e']
     rw[G1 e,b];exact h2
   . have e':¬q.1=k:=λz=>e (h1.trans z);have b:atKey (q::qs) k=atKey qs k:=by simp[atKey,a4W,e']
     rw[EM e,b];exact ih
theorem KT.repl {H:Hp}{kvs:List (List Key×V)}{xs:List (List Key×Addr×Value)}(r:KT H kvs xs) (k:List Key) {y:V}{u:Value}(ry:RelV y u) :
   KT H (kvs.map λkv=>if kv.1=k then (kv.1,y) else kv) (xs.map (putAt k u)):=by
 induction r with
 | nil=>exact .nil
 | @cons p q ps qs h t ih=>
   rw[zI,zI];refine .cons ?_ ih;obtain⟨h1,h2,h3⟩:=h;unfold putAt;by_cases e:p.1=k;. rw[if_pos e,if_pos (h1.symm.trans e)];exact⟨h1,h2,ry⟩
   . rw[if_neg e,if_neg (λz=>e (h1.trans z))];exact⟨h1,h2,h3⟩
theorem KT.put {H:Hp}{kvs:List (List Key×V)}{xs:List (List Key×Addr×Value)}(r:KT H kvs xs) (k:List Key) {b:Addr}{y:V}{u:Value}(hb:H b=some (.tup (k.map kV))) (ry:RelV y u) :
   KT H (HN kvs k y) (storedH xs k b u):=by
 have e:(kvs.any λkv=>decide (kv.1=k))=(atKey xs k).isSome:=by rw[M8,(r.val k).isSome_eq,a9J]
 unfold HN storedH;rw[e];by_cases q:(atKey xs k).isSome=true;. rw[if_pos q,if_pos q];exact r.repl k ry
 . rw[if_neg q,if_neg q];exact Paired.snoc r ⟨rfl,hb,ry⟩
theorem KT.keeps {H H':Hp}{kvs:List (List Key×V)}{xs:List (List Key×Addr×Value)}(r:KT H kvs xs) (ht:∀b ys,H b=some (.tup ys)->H' b=some (.tup ys)):KT H' kvs xs:=
 Paired.mapP r λ_ _ z=>⟨z.1,ht _ _ z.2.1,z.2.2⟩
section
variable {P:Program}{w:World}{H:Hp}{h:Heap}{a:Addr}
theorem WR {u:HO}(ok:HOk P w H h) (e:Rd H a u):ObjOk P w H h a u:=e.ok ok
theorem EF {kvs:List (Key×V)}(ok:HOk P w H h) (e:Rd H a (.dK kvs)):kvs.length<=sizeLine/\(a==sysModules)=false/\∃vs,KV kvs vs/\h.DictOf (AL P w) a vs:=
 show ObjOk P w H h a (.dK kvs) from WR ok e
theorem WS {kvs:List (Key×V)}(ok:HOk P w H h) (e:H a=some (.dK kvs)):kvs.length<=sizeLine/\(a==sysModules)=false/\∃vs,KV kvs vs/\h.DictOf (AL P w) a vs:=EF ok (.inl e)
theorem KO {ks:List Key}(ok:HOk P w H h) (e:H a=some (.tup (ks.map kV))):(tupleKind (AL P w)).is h ks a:=by
 obtain⟨_,aa,r,o,h1,h2,n,h3⟩:=(show ObjOk P w H h a (.tup (ks.map kV)) from ok a _ e)
 exact⟨o,aa.toArray,n,h1,h2,h3,by simpa using K2 r⟩
theorem M9 {kvs:List (List Key×V)}(ok:HOk P w H h) (e:Rd H a (.dT kvs)):kvs.length<=sizeLine/\(a==sysModules)=false /\∃xs,KT H kvs xs/\h.DictOfH (tupleKind (AL P w)) a xs:=by
 obtain⟨z,y,xs,r,o,es,ep,h1,h2,h3,h4,h5⟩:=(show ObjOk P w H h a (.dT kvs) from WR ok e)
 refine⟨z,y,xs,r,o,es,ep,h1,h2,h3,h4,λx hx=>?_,h5⟩;have all:∀{l:List (List Key×V)}{m:List (List Key×Addr×Value)},KT H l m->∀x∈m,(tupleKind (AL P w)).is h x.1 x.2.1:=by
   intro l m q;induction q with
   | nil=>intro x hx;exact nomatch hx
   | @cons p q ps qs hq t ih=>
     intro x hx;rcases yX.mp hx with e | hx;. subst e;exact KO ok (by rw[<-hq.1];exact hq.2.1)
     . exact ih x hx
 exact all r x hx
theorem bC {kvs:List (List Key×V)}(ok:HOk P w H h) (e:H a=some (.dT kvs)):kvs.length<=sizeLine/\(a==sysModules)=false /\∃xs,KT H kvs xs/\h.DictOfH (tupleKind (AL P w)) a xs:=M9 ok (.inl e)
end
def RQ (H:Hp) (a:Addr) (y:V) (r:Option V):Prop:=(∃kvs k,Rd H a (.dK kvs)/\y=kV k/\r=EL kvs k)\/∃kvs k b,Rd H a (.dT kvs)/\y = .ref b/\H b=some (.tup (k.map kV))/\r=EL kvs k
def bD (H:Hp) (a:Addr) (y v:V) (H':Hp):Prop:=(∃kvs k,H a=some (.dK kvs)/\y=kV k/\kvs.length < sizeLine/\H'=upd H a (.dK (HN kvs k v))) \/∃kvs k b,H a=some (.dT kvs)/\y = .ref b/\H b=some (.tup (k.map kV))/\kvs.length < sizeLine/\H'=upd H a (.dT (HN kvs k v))
section
variable {X:Cx}{pins:List (Addr×Obj)}{σ:St}{H:Hp}{s:Shared}{a:Addr}{y v:V}{u r:Value}{o:Option V}{A:Around}{E:Value->Shared->Prop}
theorem Inv.big (I:Inv X pins σ H s):sysModules < s.heap.objs.size:=by have h:mainGlobals < s.heap.objs.size:=(I.mod.glob.keeps I.bk).lt;exact Nat.lt_trans (by decide) h
theorem Q7 {Q:Value->Shared->Prop}(hu:A.units+1 < cLine) (I:Inv X pins σ H s) (g:RQ H a y (some v)) (ry:RelV y u) (h:∀w' s',Inv X pins σ H s'->RelV v w'->Q w' s') :
   wpAny (model X.prog X.w) A (getItem (.ref a) u) Q E s:=by
 rcases g with ⟨kvs,k,e,ey,l⟩ | ⟨kvs,k,b,e,ey,eb,l⟩
 . subst ey;obtain⟨z,hd,vs,rel,dd⟩:=EF I.hok e;obtain⟨w',hw,cv⟩:=RelO.some_of (v:=v) (o:=valueAt vs k) (by rw[l];exact rel.val k);exact wpAny_getItem_of (K1 ry) dd.mapOf hw (h w' _ (I.tok _) cv)
 . subst ey;cases (show u=a0X b from ry);obtain⟨z,hd,xs,rel,dd⟩:=M9 I.hok e;obtain⟨w',hw,cv⟩:=RelO.some_of (v:=v) (o:=(atKey xs k).map (·.2)) (by rw[l];exact rel.val k);obtain⟨p,hp,hp2⟩:=Option.map_eq_some_iff.mp hw;refine wpAny_getItem_heap (tupleKind_room_in1 hu) (KO I.hok eb) dd hp ?_;rw[hp2];exact h w' _ (I.tok _) cv
theorem cU {Q:Value->Shared->Prop}(hu:A.units+1 < cLine) (I:Inv X pins σ H s) (g:RQ H a y o) (ry:RelV y u) (h:∀s',Inv X pins σ H s'->Q (.bool o.isSome) s') :
   wpAny (model X.prog X.w) A (compareOp .In u (.ref a)) Q E s:=by
 rcases g with ⟨kvs,k,e,ey,l⟩ | ⟨kvs,k,b,e,ey,eb,l⟩
 . subst ey;obtain⟨z,hd,vs,rel,dd⟩:=EF I.hok e;refine wpAny_in_of (K1 ry) hd dd.mapOf ?_;rw[<-(rel.val k).isSome_eq,<-l];exact h _ (I.tok _)
 . subst ey;cases (show u=a0X b from ry);obtain⟨z,hd,xs,rel,dd⟩:=M9 I.hok e;refine wpAny_in_heap (tupleKind_room_in1 hu) (KO I.hok eb) hd dd ?_;have q:=(rel.val k).isSome_eq;rw[a9J] at q;rw[<-q,<-l];exact h _ (I.tok _)
theorem KP {h':Heap}{t':Nat}{ob:HO}(I:Inv X pins σ H s) (mu:Mut (H a)) (hs:Heap.SameBut a s.heap h') (he:∃q,h'.get? a=some q) (new:ObjOk X.prog X.w (upd H a ob) h' a ob) :
   Inv X pins σ (upd H a ob) { s with heap:=h',toks:=t' }:=
 I.write (x:=a) (e:=a) mu (.inl rfl) (λb q hb z=>(hs.2 b hb).trans z) he new
theorem NS {P:Program}{w:World}{H':Hp}{h':Heap}{kvs:List (Key×V)}{vs:List (Key×Value)}(z:kvs.length<=sizeLine) (hd:(a==sysModules)=false) (rel:KV kvs vs) (dd:h'.DictOf (AL P w) a vs) :
   ObjOk P w H' h' a (.dK kvs):=⟨z,hd,vs,rel,dd⟩
theorem Q8 {H':Hp}{Q:Unit->Shared->Prop}(hu:A.units+1 < cLine) (I:Inv X pins σ H s) (g:bD H a y v H') (ry:RelV y u) (rv:RelV v r) (h:∀s',Inv X pins σ H' s'->Q () s') :
   wpAny (model X.prog X.w) A (setItem (.ref a) u r) Q E s:=by
 rcases g with ⟨kvs,k,e,ey,l,eH⟩ | ⟨kvs,k,b,e,ey,eb,l,eH⟩
 . subst ey eH;obtain⟨z,hd,vs,rel,dd⟩:=WS I.hok e;have hz:vs.length<=sizeLine:=by rw[<-rel.length];exact z
   have hl:(HN kvs k v).length<=sizeLine:=by have:=HD kvs k v;lia
   refine wpAny_setItem_pairs (hsz:=hz) (K1 ry) dd λh' e8 hs=>h _ ?_;have he:∃q,h'.get? a=some q:=let ⟨q,_,_,hq,_⟩:=e8;⟨q,hq⟩;exact KP I (by rw[e];exact a6Z) hs he (NS hl hd (rel.put k rv) e8)
 . subst ey eH;cases (show u=a0X b from ry);obtain⟨z,hd,xs,rel,dd⟩:=bC I.hok e;have hz:xs.length<=sizeLine:=by rw[<-Paired.length rel];exact z
   have hl:(HN kvs k v).length<=sizeLine:=by have:=HD kvs k v;lia
   refine wpAny_setItem_heap (hsz:=hz) (tupleKind_room_in1 hu) (KO I.hok eb) dd λh' e8 hs=>h _ ?_;obtain⟨q,es,ep,hq,h2,h3,h4,_,h5⟩:=e8;refine KP I (by rw[e];exact a6Z) hs ⟨q,hq⟩ ⟨hl,hd,_,(rel.put k eb rv).keeps λc ys ec=>?_,q,es,ep,hq,h2,h3,h4,h5⟩;rw[AO (aE ec e (λz=>nomatch z))];exact ec
end
section
variable {X:Cx}{pins:List (Addr×Obj)}{σ:St}{H:Hp}{s:Shared}{a:Addr}{kvs:List (Key×V)}{k:Key}{u:Value}{A:Around}{E:Value->Shared->Prop}
theorem bE {v:V}{more:List Value}{Q:Value->Shared->Prop}(I:Inv X pins σ H s) (e:H a=some (.dK kvs)) (ry:RelV (kV k) u) (l:EL kvs k=some v) (hm:more=[]\/∃x,more=[x]) (h:∀w' s',Inv X pins σ (upd H a (.dK (IE kvs k))) s'->RelV v w'->Q w' s'):wpAny (model X.prog X.w) A (call (.builtin "dict.pop") (.ref a::u::more)) Q E s:=by
 obtain⟨z,hd,vs,rel,dd⟩:=WS I.hok e;obtain⟨w',hw,cv⟩:=RelO.some_of (v:=v) (o:=valueAt vs k) (by rw[<-l];exact rel.val k);have hp:(keyPart u).isSome=true:=by
   cases k with
   | inl i=>obtain⟨t,q⟩:=(show ∃t,u=Value.int i t from ry);subst q;rfl
   | inr x=>obtain⟨t,q⟩:=(show ∃t,u=Value.str x t from ry);subst q;rfl
 have ha:argsOk "dict.pop" ⟨.ref a::u::more,[]⟩:=by
   rcases hm with q | ⟨x,q⟩
   . subst q;exact PySem.F.args_dict_pop_2 _ _
   . subst q;exact PySem.F.args_dict_pop_3 _ _ _
 refine call_meetsIn PySem.F.slot_dict_pop dd.typeIs PySem.F.entry_dict_pop ha (meets_dict_pop_there (AL X.prog X.w) a (K1 ry) more hm hp) ⟨vs,w',dd,by rw[<-rel.length];exact z,hw,λh' e8 hs=>h w' _ ?_ cv⟩;have he:∃q,h'.get? a=some q:=let ⟨q,_,_,hq,_⟩:=e8;⟨q,hq⟩;exact KP I (by rw[e];exact a6Z) hs he (NS (zN (RP kvs k) z) hd (rel.drop k) e8)
end
def bF (i:Expr):Prop:=∀ov iv,subscripted i false ov iv=operate [ov,iv] (getItem ov iv)
theorem UT {prog:Program}{w:World}{A:Around}{E:Value->Shared->Prop}{s:Shared}{env:Env}{value slice:Expr}{pos:Pos}{T id:String}{Q:Value->Shared->Prop} (hl:typeLookup (.type T) "__getitem__"=pure (some (.builtin id))) (hs:bF slice) (h:wpAny (model prog w) A (eval value env) (λo s₁=>wpAny (model prog w) A (eval slice env) (λi s₂=>s₂.TypeIs o T/\wpAny (model prog w) A (getItem o i) Q E s₂) E s₁) E s) :
   wpAny (model prog w) A (eval (.Subscript value slice pos) env) Q E s:=by
 refine Subscript_ (wpAny_mono h (λo s₁ h₁=>wpAny_mono h₁ (λi s₂ h₂=>?_) λ_ _ x=>x) λ_ _ x=>x);obtain⟨hT,h₂⟩:=h₂;unfold subscriptTail;refine zZ ?_;rw[getitemInPython_of_ne hT.not_modules];refine zZ (wpAny_specialOf hT hl ?_);have fin:wpAny (model prog w) A (subscripted slice false o i) (λr s₃=>wpAny (model prog w) A (letTemporaryGo value o r >>= λ_=>pure r) Q E s₃) E s₂:=by rw[hs o i];exact wpAny_operating (wpAny_mono h₂ (λr s₃ h₃=>zZ (wpAny_letTemporaryGo (zY h₃))) λ_ _ x=>x)
 first
   | exact zY (zZ fin)
   | exact zZ (zY (zZ fin))
   | exact zZ fin
theorem MA {X:Cx}{pins:List (Addr×Obj)}{σ:St}{H:Hp}{s:Shared}{a:Addr}{y:V}{o:Option V}(I:Inv X pins σ H s) (g:RQ H a y o):s.TypeIs (.ref a) "dict" := by
 rcases g with ⟨kvs,k,e,_,_⟩ | ⟨kvs,k,b,e,_,_,_⟩
 . obtain⟨_,_,vs,_,dd⟩:=EF I.hok e;exact dd.typeIs
 . obtain⟨_,_,xs,_,dd⟩:=M9 I.hok e;exact dd.typeIs
def WT (td ty:TE):TE:=λσ H Q=>td σ H λx H1=>ty σ H1 λy H2=>∃a v,x = .ref a/\RQ H2 a y (some v)/\Q v H2
def bG (ty td:TE):TE:=λσ H Q=>ty σ H λy H1=>td σ H1 λx H2=>∃a o,x = .ref a/\RQ H2 a y o/\Q (.bl o.isSome) H2
def WU (td ty tv:TE):TS:=λD σ H=>tv σ H λv H1=>td σ H1 λx H2=>ty σ H2 λy H3=>∃a H4,x = .ref a/\bD H3 a y v H4/\D.nx σ H4
section
variable {X:Cx}{o i e value:Expr}{pos pos' j5:Pos}{td ty tv:TE}
theorem OU (hu:X.A.units+1 < cLine) (ho:PE X o td) (hi:PE X i ty) (hs:bF i):PE X (.Subscript o i pos) (WT td ty):=by intro pins s σ H Q I h;refine UT PySem.F.slot_dict_getitem.lookup hs (thn (ho pins s σ H _ I h) λu s1 ⟨x,H1,I1,rx,q1⟩=>thn (hi pins s1 σ H1 _ I1 q1) λiv s2 ⟨y,H2,I2,ry,a,v,ex,g,q2⟩=>?_);subst ex;obtain rfl:u=a0X a:=rx;exact⟨MA I2 g,Q7 hu I2 g ry λw' s3 I3 cv=>⟨v,H2,I3,cv,q2⟩⟩
theorem YG (hu:X.A.units+1 < cLine) (hi:PE X i ty) (ho:PE X o td):PC X .In i o (bG ty td):=by intro pins s σ H Q I h;refine thn (hi pins s σ H _ I h) λiv s1 ⟨y,H1,I1,ry,q1⟩=>thn (ho pins s1 σ H1 _ I1 q1) λu s2 ⟨x,H2,I2,rx,a,ov,ex,g,q2⟩=>?_;subst ex;obtain rfl:u=a0X a:=rx;exact cU hu I2 g ry λs3 I3=>⟨.bl ov.isSome,H2,I3,rfl,q2⟩
theorem OV (hu:X.A.units+1 < cLine) (ho:PE X o td) (hi:PE X i ty) (hv:PE X value tv) (hs:swapsWith value (some (.Subscript o i pos')) pos.line X.env=pure false) :
   PS X (.Assign [.Subscript o i pos'] value pos) (WU td ty tv):=by intro pins s σ H D I h;refine wpAny_Assign_Subscript (thn (hv pins s σ H _ I h) λr s1 ⟨v,H1,I1,rv,q1⟩=>thn (ho pins s1 σ H1 _ I1 q1) λu s2 ⟨x,H2,I2,rx,q2⟩=>thn (hi pins s2 σ H2 _ I2 q2) λiv s3 ⟨y,H3,I3,ry,a,H4,ex,g,q3⟩=>?_) hs;subst ex;obtain rfl:u=a0X a:=rx;exact Q8 hu I3 g ry rv λs4 I4=>⟨σ,H4,I4,q3⟩
end
theorem RR {P:Program}{w:World}{H:Hp}(h:Heap) (hb:sysModules < h.objs.size):ObjOk P w H (h.push { cls:=.type "dict", data:=.dict #[] }) h.objs.size (.dK []):=⟨xU _,beq_eq_false_iff_ne.mpr (a5J (zC hb)),[],.nil,Heap.DictOf.new h⟩
def RS:TE:=λ_ H Q=>∀p,H p=none->Q (.ref p) (upd H p (.dK []))
section
variable {X:Cx}{pos:Pos}
theorem RT:PE X (.Dict [] [] pos) RS:=λpins s σ H Q I h=>
 wpAny_Dict_empty ⟨.ref s.heap.objs.size,_,I.laid (a:=s.heap.objs.size) (o:=.dK []) (t':=s.toks) (λ_ _ q=>zW _ q) (zR _) (RR s.heap I.big),rfl,h _ (I.hok.fresh (zR _))⟩
end
structure M1 (X:Cx) (o:Expr) (m:Str) (apos:Pos) (e:Expr) (ae:Pos):Prop where
 base:attributeBase o m X.env (eval o X.env)=eval o X.env
 few:((backTo ae (starEach [e] X.env)).all (λx=>!x.1)&&(backToKw ae (keywordEach [] X.env)).all (λx=>x.1.isSome)
   && decide (([e]:List Expr).length+([]:List Keyword).length+(if ([]:List Keyword).isEmpty then 0 else 1) < 30))=true
 line:(apos.endLine==ae.line)=true
 trees:backTo ae (starEach [e] X.env)=[(false,eval e X.env)]
def IsD (H:Hp) (a:Addr):Prop:=(∃kvs,Rd H a (.dK kvs))\/∃kvs,Rd H a (.dT kvs)
theorem YH {X:Cx}{pins:List (Addr×Obj)}{σ:St}{H:Hp}{s:Shared}{a:Addr}(I:Inv X pins σ H s) (d:IsD H a) :
   s.TypeIs (.ref a) "dict" /\ (∀b,a0X a = .ref b->∃ob,s.heap.get? b=some ob/\ob.dict=none)/\(a==sysModules)=false:=by
 rcases d with ⟨kvs,e⟩ | ⟨kvs,e⟩
 . obtain⟨_,hd,vs,_,dd⟩:=EF I.hok e;refine⟨dd.typeIs,λb q=>?_,hd⟩;cases q;obtain⟨ob,_,_,h1,h2,_⟩:=dd;exact⟨ob,h1,h2.2.1⟩
 . obtain⟨_,hd,xs,_,dd⟩:=M9 I.hok e;refine⟨dd.typeIs,λb q=>?_,hd⟩;cases q;obtain⟨ob,_,_,h1,h2,_⟩:=dd;exact⟨ob,h1,h2.2.1⟩
def RU (td ty:TE):TE:=λσ H Q=>td σ H λx H1=>∃a,x = .ref a/\IsD H1 a/\ty σ H1 λy H2=>∃kvs k v,H2 a=some (.dK kvs)/\y=kV k/\EL kvs k=some v/\Q v (upd H2 a (.dK (IE kvs k)))
section
variable {X:Cx}{o e f:Expr}{apos ae:Pos}{td ty tx:TE}
theorem RV (ho:PE X o td) (he:PE X e ty) (m:M1 X o "pop" apos e ae):PE X (.Call (.Attribute o "pop" apos) [e] [] ae) (RU td ty):=by intro pins s σ H Q I h;refine wpAny_Call_method m.base m.few m.line PySem.F.plainAttrs_dict PySem.F.slot_dict_pop PySem.F.type_dict_pop (thn (ho pins s σ H _ I h) λu s1 ⟨x,H1,I1,rx,a,ex,d,q1⟩=>?_);subst ex;obtain rfl:u=a0X a:=rx;obtain⟨t1,t2,_⟩:=YH I1 d;refine⟨t1,t2,?_⟩;rw[m.trees];refine b0J rfl (Calls.evalArgs_plain (Calls.spliced_cons (thn (he pins s1 σ H1 _ I1 q1) λiv s2 ⟨y,H2,I2,ry,kvs,k,v,ea,ey,l,q2⟩=>Calls.spliced_nil ?_)));subst ey;exact bE I2 ea ry l (.inl rfl) λw' s3 I3 cv=>⟨v,_,I3,cv,q2⟩
end
end L2
namespace Att
open PySem PySem.W PySem.Calls PyProof.Rows
theorem HP {P:Params}{h:Heap}:∀(ns:List Int) (vs:List Value),WellAll P h vs (ns.map WData.int)->IntsAre vs ns:=by
 intro ns;induction ns with
 | nil=> intro vs w;rw[List.map_nil] at w;cases w;exact .nil
 | cons n ns ih=>
   intro vs w;rw[zI] at w;cases w with
   | cons a b=> cases a;exact .cons _ _ (ih _ b)
theorem script_of {l:OpenLaw}{n:Nat}(hn:l.most=some n) {P:Params}{h:Heap}{args:List WData}{vals:List Value} (eL:l.row.toRowW.claim.pre args=true) (fw:WellAll P h vals args) : ∃a vs ns,vals=[a0X a]/\args=[WData.list (ns.map WData.int)]/\h.get? a=some { cls:=.type "list", data:=.seq vs.toArray }/\IntsAre vs ns/\ns.length<=n:=by
 have j6:WShape.hasAll [] args [.list .int]=true:=(pre_splitW eL).1;have hc:l.pre.holds [] { args:=args }=true:=(pre_splitW eL).2;obtain⟨d,r,rfl,h1,h2⟩:=hasAllW_cons j6;obtain rfl:=hasAllW_nil h2;obtain⟨xs,rfl,h3⟩:=hasW_list h1;obtain⟨ns,rfl⟩:=items_int h3;have ac:ns.length<=n:=by
   unfold OpenLaw.pre at hc;have h4:(WTm.not (.lt (.lit (.int (n:Int))) (.len (.arg 0)))).holds [] { args:=[.list (ns.map .int)] }=true:=by have h4:=(holds_andW hc).1;rw[hn] at h4;exact h4
   have h5:=condW_of h4 (w_not (w_lt w_lit (w_len_list (w_arg rfl))));rw[zX] at h5;refine Nat.le_of_not_lt λq=>?_;have q':(n:Int) < ((ns.length:Nat):Int):=by lia
   first
     | (rw[decide_eq_true q'] at h5;exact absurd h5 (by decide))
     | (simp at h5;lia)
 cases fw with
 | cons w1 w2=>
   cases w2;cases w1 with
   | list ho hall=>exact⟨_,_,ns,rfl,rfl,ho,HP ns _ hall,ac⟩
theorem post_true (l:OpenLaw) (args:List WData):l.row.toRowW.claim.post args (.bool true) args=true:=
 postW_of (r:=l.row.toRowW) (X:=(true==true)) (show WShape.has [] (.bool true) .bool=true by first | rfl | decide | simp[WShape.has,WShape.arms,WShape.armsAll])
   (show(WTm.eq .res (.lit (.bool true))).value [] { args:=args,res:=some (.bool true),after:=args }=some (.bool (true==true)) from w_eq_bool (w_res rfl) w_lit) rfl
end Att
namespace L2
open PySem PySem.Spec PyProof.Rows
theorem K3:∀{vs:List Value}{ns:List Int},IntsAre vs ns->Vals (ns.map V.int) vs
 | _,_,.nil=>.nil
 | _,_,.cons n t h=>.cons ⟨t,rfl⟩ (K3 h)
def YI (H:Hp):Prop:=∀b,H b=none\/∃o xs,H b=some (.frz o (.lst xs))
theorem RW {P:Program}{w:World}{K:Frg}{mg mb:Str->Option Value}{CX:CXT}{k:Nat}{fa a:Addr}{fd:FuncData}{x:Str}{sp:Sp}{s₁:Shared}{vs:List Value}{ns:List Int} (KX:K.In s₁.heap) (fL:s₁.heap.Ns mainGlobals mg) (hb:s₁.heap.Ns builtinsNs mb) (j7:∀x:Str,x ≠ "__name__" -> mb x=bootBuiltins x) (gW:s₁.heap.NoLimit) (hg:s₁.gens=#[]) (ha:s₁.heap.get? a=some { cls:=.type "list", data:=.seq vs.toArray }) (hi:IntsAre vs ns) (hl:ns.length<=sizeLine) (hr:Room k callerA) (F:∀base:Heap,K.In base->base.Ns mainGlobals mg->FnOk P w K mg base CX k fa fd [x] sp) (fM:∀(s:Shared) (u:Value),BindsTo s fd ⟨[u],[]⟩ [(x,u)]) (eZ:∀H:Hp,YI H->SqL K H a (ns.map V.int)->sp [.ref a] H (λv _=>v = .bl true) λ_ _ _=>False) (gX:∀H e s',CX [] H s₁ (λ_ _ _=>False) e s'->False) :
   codeAny (model P w) callerA (.call (.ref fa) ⟨[.ref a],[]⟩) (λr s'=>r = .ok (.ret (.bool true))/\OldK s₁.heap s'.heap/\s'.os=s₁.os/\AllBare s'.gens) s₁:=by
 have rv:=K3 hi;have gY:=hi.length;have core:∀H:Hp,YI H->SqL K H a (ns.map V.int)->HOk P w H s₁.heap->(∀b,H b≠none->b=a)->(H a≠none->K.lookup a=none) ->
     codeAny (model P w) callerA (.call (.ref fa) ⟨[.ref a],[]⟩) (λr s'=>r = .ok (.ret (.bool true))/\OldK s₁.heap s'.heap/\s'.os=s₁.os/\AllBare s'.gens) s₁:=by
   intro H hO hS hok hA hK;have dM:∀{b:Addr}{o:Obj},s₁.heap.get? b=some o->H b=none->(KD s₁.heap H).get? b=some o:=λe n=>RE e n;have fH:∀{b:Addr}{o:Obj}{es:Array DictEntry}{ep:Nat},s₁.heap.get? b=some o->o.data = .dict es ep->H b=none:=λ{b o es ep} e d=>by
     cases q:H b with
     | none=>rfl
     | some u=> have e':b=a:=hA b (by rw[q];simp);subst e';rw[ha] at e;cases e;have d':Data.seq vs.toArray _=Data.dict es ep:=d;cases d'
   have g0:∀{b:Addr}{m:Str->Option Value},s₁.heap.Ns b m->(KD s₁.heap H).Ns b m:=λ{b m} ⟨o,es,ep,e,d,r⟩=>⟨o,es,ep,dM e (fH e d),d,r⟩
   have i8:K.In (KD s₁.heap H):=λb o e=>dM (KX b o e) (by
     cases q:H b with
     | none=>rfl
     | some u=> have e':b=a:=hA b (by rw[q];simp);subst e';rw[hK (by rw[q];simp)] at e;cases e);have hM:Mod K mg (KD s₁.heap H):=⟨i8,g0 fL,⟨mb,g0 hb,j7⟩,let ⟨mc,h1,h2⟩:=gW;⟨mc,g0 h1,h2⟩⟩
   have e0:Env0 P w K mg (KD s₁.heap H) callerA [] s₁ H:=⟨rfl,hM,λb o e=>UC e,Nat.le_of_eq (PR _ _),trivial,λb hb=>absurd (show b∈([]:List Addr) from hb) (by simp),hok,.of_eq hg⟩
   refine codeAny_mono ((F _ i8 (g0 fL)).run callerA [] s₁ H ⟨[.ref a],[]⟩ [.ref a] [.ref a] _ _ hr e0 (fM s₁ (.ref a)) (.cons rfl .nil) (eZ H hO hS)) λr s' h=>?_;cases r with
   | error e=>exact(gX H e s' h).elim
   | ok fl=>
     cases fl with
     | next=>exact a6X h
     | brk=>exact a6X h
     | cont=>exact a6X h
     | ret u=>
       obtain⟨v,H',os,bare,un,fz,r',q⟩:=h;have q':v = .bl true:=q;subst q';obtain rfl:u=Value.bool true:=r';refine⟨rfl,OldK.of_keep λb o e=>?_,os,bare⟩;cases q:H b with
       | none=>exact un.keep b o e q (by intro z;exact absurd (show b∈([]:List Addr) from z) (by simp)) (by simp)
       | some u=>
         rcases hO b with z | ⟨ob,xs,z⟩
         . rw[q] at z;cases z
         . have z2:=un.frzs b ob _ z;obtain⟨e1,_⟩:=hok b _ z;obtain⟨e2,_⟩:=fz b _ z2;rw[e] at e1;cases e1;exact e2
 cases hk:K.lookup a with
 | some o=> have e:=KX a o hk;rw[ha] at e;cases e;refine core (λ_=>none) (λ_=>.inl rfl) (.inr ⟨_,vs.toArray,_,hk,rfl,rfl,rfl,by rw[zJ,gY];exact hl,by simpa using rv⟩) (λb u z=>by have z':(none:Option HO)=some u:=z;cases z') (λb z=>absurd rfl z) λz=>absurd rfl z
 | none=>
   refine core (λb=>if b=a then some (.frz { cls:=.type "list", data:=.seq vs.toArray } (.lst (ns.map V.int))) else none) (λb=>?_) (.inl (.inr ⟨{ cls:=.type "list", data:=.seq vs.toArray },if_pos rfl⟩)) (λb u z=>?_) (λb z=>?_) λ_=>hk
   . by_cases hb:b=a;. exact .inr ⟨_,_,if_pos hb⟩
     . exact .inl (if_neg hb)
   . by_cases hb:b=a;. have z':=(if_pos hb).symm.trans z;cases z';subst hb;exact⟨ha,by rw[zX];exact hl,vs,_,rv,ha⟩
     . have z':=(if_neg hb).symm.trans z;cases z'
   . by_cases hb:b=a;. exact hb
     . exact absurd (if_neg hb) z
def CD (s:Stmt):Arguments:=match s with
 | .FunctionDef _ a _ _ _ _ _ _ _ _=>a
 | _=>{ posonlyargs:=[],args:=[],vararg:=none,kwonlyargs:=[],kw_defaults:=[],kwarg:=none,defaults:=[] }
def BN (s:Stmt):List Stmt:=match s with
 | .FunctionDef _ _ b _ _ _ _ _ _ _=>b
 | _=>[]
def AC (s:Stmt):Scope:=match s with
 | .FunctionDef _ _ _ _ _ _ sc _ _ _=>sc
 | _=>{ kind:=.function,names:=[],isGenerator:=false,isCoroutine:=false }
abbrev CX0:CXT:=λ_ _ _ _ _ _=>False
abbrev E0:XK:=λ_ _ _=>False
theorem bH {X:Cx}:NN CX0 X E0:=λ_ _ _ _ _ _ _ h=>h.elim
structure Fun (K:Frg) (x qual:Str) (st:Stmt) (f:Addr) (fd:FuncData):Prop where
 ex:∃(oc:Value) (od:Option Addr) (kV doc pm:Value) (an:Option Addr) (cdv ct:Value) (osl:Array (Option Value)),
   fd=a3W x qual (CD st) (BN st) (AC st) .none kV doc pm an cdv ct/\K.lookup f=some ⟨oc,od,.func fd,osl⟩/\a8J K cdv qual=true
 kp:a5Q K (.ref f)=true
section
variable {P:Program}{w:World}{K:Frg}{mg:Str->Option Value}{base:Heap}
theorem Fun.ok {x qual:Str}{st:Stmt}{f:Addr}{fd:FuncData}{N ps:List Str}{k:Nat}{sp:Sp}(F:Fun K x qual st f fd) (S:FnScope N ps (AC st)) (len:∀vs H Q E,sp vs H Q E->vs.length=ps.length) (cj:∀(cdv:Value) (A:Around) (outer:List Env) (s:Shared) (H:Hp) (vs:List V) (Q:VK) (E:XK),Room k (A.deeper (envOfC qual (AC st) s.heap.objs.size f cdv))->sp vs H Q E ->∃t,PSs (NO CX0 P w K mg base N qual (AC st) f cdv A outer s H E).nox (BN st) t/\t { nx:=λ_ H'=>Q .non H',rt:=Q } (EE N vs) H):FnOk P w K mg base CX0 (k+1) f fd ps sp:=by obtain⟨oc,od,kV,doc,pm,an,cdv,ct,osl,rfl,lk,dX⟩:=F.ex;refine aY lk dX S len λA outer s H vs Q E hr eZ=>?_;obtain⟨t,h,q⟩:=cj cdv A outer s H vs Q E hr eZ;exact⟨t,h.nox,q⟩
theorem Fun.binds {x qual:Str}{st:Stmt}{f:Addr}{fd:FuncData}{ps:List Str}(F:Fun K x qual st f fd) (h:∀(kV doc pm:Value) (an:Option Addr) (cdv ct:Value) (us:List Value),us.length=ps.length->bindArgs (a3W x qual (CD st) (BN st) (AC st) .none kV doc pm an cdv ct) ⟨us,[]⟩=pure (ps.zip us)):Binds K fd ps []:=by obtain⟨oc,od,kV,doc,pm,an,cdv,ct,osl,rfl,lk,dX⟩:=F.ex;exact .all (h kV doc pm an cdv ct)
theorem YJ {x qual:Str}{st:Stmt}{f:Addr}{oc:Value}{od an:Option Addr}{osl:Array (Option Value)}{kV doc pm cdv ct:Value}(l:K.lookup f=some ⟨oc,od,.func (a3W x qual (CD st) (BN st) (AC st) .none kV doc pm an cdv ct),osl⟩) (c:a8J K cdv qual=true) (k:a5Q K (.ref f)=true):Fun K x qual st f (a3W x qual (CD st) (BN st) (AC st) .none kV doc pm an cdv ct):=⟨⟨oc,od,kV,doc,pm,an,cdv,ct,osl,rfl,l,c⟩,k⟩
end
section
variable {X:Cx}
theorem pv (i:Nat) {x:Str}{pos:Pos}(hN:X.N[i]?=some x:=by rfl) (hv:Vis X.env.scope x:=by first | exact Or.inl rfl | exact Or.inr (Or.inl rfl) | exact Or.inr (Or.inr rfl)) (hd:(x==("__debug__":Str))=false:=by decide)
   (dX:(x==("__classdict__":Str))=false:=by decide):PE X (.Name x pos) (UD i):=RF hN hv hd dX
end
theorem YK {A B:Prop}(h:B):if false=true then A else B:=by rw[if_neg nft];exact h
theorem YL {A B:Prop}(h:A):if true=true then A else B:=by rw[if_pos rfl];exact h
theorem YM {c A B:Prop}[Decidable c] (h1:c->A) (h2:¬c->B):if c then A else B:=by
 by_cases h:c;. rw[if_pos h];exact h1 h
 . rw[if_neg h];exact h2 h
end L2
namespace L2
open PySem PySem.Spec PyProof.Rows
def GO (cells:List (Str×Addr)):List (Str×NameKind)->List (Str×Addr)->List (Str×Addr)
 | [],cs=>cs
 | (n,k)::r,cs=>GO cells r (if k==.free then (match cells.lookup n with | some c=>(n,c)::cs | none=>cs) else cs)
theorem KQ (env:Env):∀(names:List (Str×NameKind)) (cs:List (Str×Addr)),(∀y∈names,y.2 = .free->∃c,env.cells.lookup y.1=some c) ->(forIn (m:=Sem) names cs λx r=>do
     let (name,kind):=x
     if (kind==.free)=true then do let c <- cellOf env name;pure (a5W ((name,c)::r)) else pure (a5W r))=pure (GO env.cells names cs)
 | [],cs,_=>rfl
 | (n,k)::r,cs,h=>by
   have hr:∀y∈r,y.2 = .free->∃c,env.cells.lookup y.1=some c:=λy hy=>h y (yV _ hy);rw[List.forIn_cons];by_cases hk:(k==a3J)=true;. obtain⟨c,hc⟩:=h (n,k) a1X (by simpa using hk);have eV:env.cells.lookup n=some c:=hc;simp only[hk,if_true,cellOf,eV,GO];exact KQ env r _ hr
   . simp only[hk,if_false,GO];exact KQ env r _ hr
theorem UU {scope:Scope}{env:Env}(h:∀y∈scope.names,y.2 = .free->∃c,env.cells.lookup y.1=some c):closureFor scope env=pure (GO env.cells scope.names []):=by
 have e:=KQ env scope.names [] h;have e2:closureFor scope env=((forIn (m:=Sem) scope.names ([]:List (Str×Addr)) λx r=>do
     let (name,kind):=x
     if (kind==.free)=true then do let c <- cellOf env name;pure (a5W ((name,c)::r)) else pure (a5W r)) >>= λr=>pure r):=rfl;rw[e2,e];rfl
theorem MB {cells:List (Str×Addr)}:∀{names:List (Str×NameKind)}{cs:List (Str×Addr)},(∀p∈cs,cells.lookup p.1=some p.2)->∀p∈GO cells names cs,cells.lookup p.1=some p.2
 | [],_,h=>h
 | (n,k)::r,cs,h=>by
   refine MB (names:=r) ?_;split
   . cases e:cells.lookup n with
     | none=>exact h
     | some c=>
       intro p hp;rcases yX.mp hp with rfl | hp;. exact e
       . exact h p hp
   . exact h
theorem K4 {cells:List (Str×Addr)}:∀{names:List (Str×NameKind)}{cs:List (Str×Addr)}{p:Str×Addr},p∈cs->p∈GO cells names cs
 | [],_,_,h=>h
 | (n,k)::r,cs,p,h=>by
   refine K4 (names:=r) ?_;split
   . cases e:cells.lookup n with
     | none=>exact h
     | some c=>exact yV _ h
   . exact h
theorem MC {cells:List (Str×Addr)}{x:Str}{c:Addr}(hc:cells.lookup x=some c):∀{names:List (Str×NameKind)}{cs:List (Str×Addr)},(x,a3J)∈names->(x,c)∈GO cells names cs
 | [],_,h=>absurd h (by simp)
 | (n,k)::r,cs,h=>by
   rcases yX.mp h with e | h;. cases e;refine K4 (names:=r) ?_;simp[hc]
   . exact MC hc (names:=r) h
theorem IF {α:Type}:∀{l:List (Str×α)}{x:Str}{c:α},(x,c)∈l->∃c',l.lookup x=some c'
 | [],_,_,h=>absurd h (by simp)
 | (n,k)::r,x,c,h=>by
   rw[a1K];cases e:x==n with
   | true=>exact⟨k,rfl⟩
   | false=>
     rcases yX.mp h with e' | h;. cases e';simp at e
     . exact IF h
theorem B6 {cells:List (Str×Addr)}{names:List (Str×NameKind)}{x:Str}{c:Addr}(h:(GO cells names []).lookup x=some c):cells.lookup x=some c:=
 MB (names:=names) (cs:=[]) (by simp) (x,c) (a2K h)
structure CSc (X:Cx) (scope:Scope) (NC:List Str) (fr:List (Option Nat)):Prop where
 kind:scope.kind = .function
 nocell:∀y∈scope.names,y.2≠.cell
 names:∀y∈scope.names,y.2 = .local->scope.names.lookup y.1=some .local
 free:∀y∈scope.names,y.2 = .free->X.env.kindOf y.1=some .cell\/X.env.kindOf y.1=some .free
 len:fr.length=NC.length
 slot:∀(i j:Nat) (x:Str),NC[i]?=some x->fr[i]?=some (some j)->X.N[j]?=some x/\scope.names.lookup x=some .free/\Vis X.env.scope x/\X.env.kindOf x≠some .local
def capt (fr:List (Option Nat)) (σ:St):St:=fr.map λo=>o.bind λj=>(σ[j]?).join
def BO (X:Cx) (scope:Scope) (NC:List Str) (C:Addr) (s:Shared) (H:Hp) (ex:List Addr) (pn:List (Addr×Obj)):Cx where
 prog:=X.prog
 w:=X.w
 K:=X.K
 mg:=X.mg
 base:=X.base
 A:=X.A
 N:=NC
 s₀:=s
 H₀:=H
 env:=compEnvC scope (GO X.env.cells scope.names []) C X.env
 outer:=X.stack
 stack:=X.stack
 ex:=ex
 fn:=λ_=>false
 calm:=X.calm
 pn:=pn
 xe:=λ_ _=>False
theorem FL {scope:Scope}{env:Env}{x:Str}:∀{names:List (Str×NameKind)},((names.map λ(n,k)=>if (k==a3J&&env.scope.kind==.function&&env.kindOf n==some .cell) then (n,NameKind.cell) else (n,k)).lookup x=some .cell \/(names.map λ(n,k)=>if (k==a3J&&env.scope.kind==.function&&env.kindOf n==some .cell) then (n,NameKind.cell) else (n,k)).lookup x=some .free) ->(∀y∈names,y.2≠.cell)->(x,a3J)∈names
 | [],h,_=>by simp at h
 | (n,k)::r,h,hn=>by
   have ih:=@FL scope env x r;have fG:∀y∈r,y.2≠.cell:=λy hy=>hn y (yV _ hy);have hk:=hn (n,k) a1X;simp only[zI] at h;by_cases hc:(k==a3J&&env.scope.kind==.function&&env.kindOf n==some .cell)=true
   . simp only[hc,if_true,a1K] at h;cases hx:x==n with
     | true=>
       have e:x=n:=by simpa using hx
       have e2:k = .free:=by simp at hc;exact hc.1.1
       subst e e2;exact a1X
     | false=> simp only[hx] at h;exact yV _ (ih h fG)
   . simp only[hc,a1K] at h;cases hx:x==n with
     | true=>
       have e:x=n:=by simpa using hx
       subst e;simp[a1K] at h;rcases h with h | h;. exact absurd h hk
       . subst h;exact a1X
     | false=> simp[a1K,hx] at h;exact yV _ (ih (by simpa using h) fG)
section
variable {X:Cx}{scope:Scope}{NC:List Str}{fr:List (Option Nat)}{pins:List (Addr×Obj)}{σ:St}{H:Hp}{s:Shared}
theorem CSc.has (S:CSc X scope NC fr) (ok:X.Ok):∀y∈scope.names,y.2 = .free->∃c,X.env.cells.lookup y.1=some c:=λy hy hf=>ok.has y.1 (S.free y hy hf)
theorem CSc.cells (S:CSc X scope NC fr) (ok:X.Ok) {x:Str}(h:(x,a3J)∈scope.names):∃c,(GO X.env.cells scope.names []).lookup x=some c/\X.env.cells.lookup x=some c:=by obtain⟨c,hc⟩:=S.has ok _ h rfl;have eV:X.env.cells.lookup x=some c:=hc;obtain⟨c',h'⟩:=IF (MC eV h (cs:=[]));have:=B6 h';rw[eV] at this;cases this;exact⟨_,h',eV⟩
theorem KR {env:Env}{x:Str}{scope:Scope}(hn:∀y∈scope.names,y.2 = .local->scope.names.lookup y.1=some .local) (h:(x,a3J)∈scope.names) (hl:scope.names.lookup x≠some .free->False):(relabel scope env).names.lookup x=some .cell\/(relabel scope env).names.lookup x=some .free:=by
 have hf:scope.names.lookup x=some .free:=by
   cases e:scope.names.lookup x with
   | none=>exact(hl (by rw[e];intro z;cases z)).elim
   | some k=>
     cases k <;> first
       | rfl
       | exact(hl (by rw[e];intro z;cases z)).elim
 have go:∀(names:List (Str×NameKind)),names.lookup x=some .free ->((names.map λ(n,k)=>if (k==a3J&&env.scope.kind==.function&&env.kindOf n==some .cell) then (n,NameKind.cell) else (n,k)).lookup x=some .cell \/(names.map λ(n,k)=>if (k==a3J&&env.scope.kind==.function&&env.kindOf n==some .cell) then (n,NameKind.cell) else (n,k)).lookup x=some .free):=by
   intro names;induction names with
   | nil=>intro h;simp at h
   | cons y r ih=>
     obtain⟨n,k⟩:=y;intro h;rw[a1K] at h;simp only[zI];cases hx:x==n with
     | true=>
       simp only[hx] at h;cases h;split;. left;simp[a1K,hx]
       . right;simp[a1K,hx]
     | false=>
       simp only[hx] at h;have:=ih h;split;. simpa [a1K,hx] using this
       . simpa [a1K,hx] using this
 exact go scope.names hf
end
end L2
namespace L2
open PySem PySem.Spec PyProof.Rows
theorem BV {α:Type}{t:Sem α}{Q:α->Shared->Prop}{M:Model}{A:Around}{E:Value->Shared->Prop}{s:Shared}(h:wpAny M A t Q (λ_ _=>False) s):wpAny M A t Q E s:=
 wpAny_mono h (λ_ _ q=>q) λ_ _ f=>f.elim
def IG (ifs:List Expr) (env:Env):Sem Bool:=forIn ifs true λc r=>if r=true then do let ok <- isTrue c env (eval c env);pure (a5W ok) else pure (a5W r)
def RX (prog:Program) (w:World) (A:Around) (cE target:Expr) (ifs:List Expr) (tl:Env->Addr->(Shared->Prop)->Shared->Prop):Prop:=∀(it D:Addr) (env:Env) (R:Result->Shared->Prop) (I:Nat->Shared->Prop),(∀n s,I n s->wpAny (model prog w) A (pyNext (.ref it)) (λr s₁=>match r with
     | none=>R (.ok .next) s₁
     | some v=>wpAny (model prog w) A (letOwnedTupleGo target (.ref it) v) (λ_ s₀=>wpAny (model prog w) A (assign target env v) (λ_ s₂=>
         wpAny (model prog w) A (IG ifs env) (λok s₃=>if ok=true then tl env D (λs'=>∃m,m < n/\I m s') s₃ else ∃m,m < n/\I m s₃) (λ_ _=>False) s₂) (λ_ _=>False) s₀) (λ_ _=>False) s₁) (λ_ _=>False) s) ->
   ∀n s,I n s->codeAny (model prog w) A (.compLoop cE 0 (.ref it) (.ref D) env) R s
def tlL (prog:Program) (w:World) (A:Around) (elt:Expr):Env->Addr->(Shared->Prop)->Shared->Prop:=λenv D P s=>wpAny (model prog w) A (eval elt env) (λx s₄=>wpAny (model prog w) A (call (.builtin "list.append") [.ref D,x]) (λ_ s₅=>P s₅) (λ_ _=>False) s₄) (λ_ _=>False) s
theorem UV {prog:Program}{w:World}{A:Around}{elt target iter:Expr}{ifs:List Expr}{scope:Scope}{pos:Pos}:RX prog w A (.ListComp elt [⟨target,iter,ifs,0⟩] scope pos) target ifs (tlL prog w A elt):=by
 intro it D env R I turn n s h;refine codeAny_loop rfl I (λn s hI=>?_) n h;show wpAny _ A ((compTurn (.ListComp elt [⟨target,iter,ifs,0⟩] scope pos) 0 (.ref it) (.ref D) env).onRaise (λx=>do noteFrame x env;theTreesLotGoes x)) _ _ s;refine wpAny_noted ?_;rw[compTurn_list];refine zZ (wpAny_standAt (zZ (wpAny_mono (BV (turn n s hI)) (λr s₁ h₁=>?_) λ_ _ h'=>h')));cases r with
 | none=>exact zY h₁
 | some v=>
   refine zZ (wpAny_mono (BV h₁) (λ_ s₀ h₀=>?_) λ_ _ h'=>h');refine zZ (wpAny_mono (BV h₀) (λ_ s₂ h₂=>zZ (wpAny_mono (BV h₂) (λok s₃ h₃=>?_) λ_ _ h'=>h')) λ_ _ h'=>h');cases ok with
   | false=>exact zY ⟨rfl,h₃⟩
   | true=> exact zZ (zZ (wpAny_mono (BV h₃) (λx s₄ h₄=>zZ (wpAny_mono (BV h₄) (λ_ s₅ h₅=>zY (zY ⟨rfl,h₅⟩)) λ_ _ h'=>h')) λ_ _ h'=>h'))
def PTs (X:Cx) (ifs:List Expr) (t:TT):Prop:=∀(pins:List (Addr×Obj)) (s:Shared) (σ:St) (H:Hp) (Q:Bool->Hp->Prop),Inv X pins σ H s->t σ H Q->wpAny (model X.prog X.w) X.A (IG ifs X.env) (TP X pins σ Q) X.xe s
def bI:TT:=λ_ H Q=>Q true H
theorem UW {X:Cx}:PTs X [] bI:=λ_ _ _ H _ I h=>wpAny_tests_nil ⟨H,I,h⟩
def OW (fr:List (Option Nat)) (wi:TI) (g:TG) (tt:TT) (te:TE):TE:=λσ H Q=>wi σ H λJ H1=>∀D,H1 D=none->∃W:Nat->Nat->List V->Hp->Prop,(∃m,W 0 m [] (upd H1 D (.lst []))) /\∀i m ys H2,W i m ys H2->H2 D=some (.lst ys)/\((J.stop i H2/\Q (.ref D) H2)\/(J.go i H2/\∀x H3,J.yld i H2 x H3->g x (capt fr σ) H3 λσ2 H4=>
   (∀(i:Nat) v,(capt fr σ)[i]?=some (some v)->σ2[i]?=some (some v))/\tt σ2 H4 λc H5=>if c=true then te σ2 H5 λy H6=>∃aj,H6 D=some (.lst aj)/\aj.length < sizeLine/\∃m',m' < m/\W (i+1) m' (aj++[y]) (upd H6 D (.lst (aj++[y])))
     else ∃aj m',m' < m/\W (i+1) m' aj H5))
section
variable {X:Cx}{scope:Scope}{NC:List Str}{fr:List (Option Nat)}{pins:List (Addr×Obj)}{σ:St}{H:Hp}{s:Shared}
theorem NT {fp:List Addr}{h1:Heap}{m:Str->Option Value}{tk:Nat}(S:CSc X scope NC fr) (I:Inv X pins σ H s) (g5:∀b∈fp,JF X pins H b) (bi:∀b∈fp,b < s.heap.objs.size) (fL:h1.Ns s.heap.objs.size m) (hk:∀b o,s.heap.get? b=some o->h1.get? b=some o) :
   Inv (BO X scope NC s.heap.objs.size s H fp (X.pn++pins)) [] (capt fr σ) H { s with heap:=h1,toks:=tk }:=by
 have I4:Inv X pins σ H { s with heap:=h1,toks:=tk }:=I.kept hk;have fN:∀b,b≠X.env.locals->b∉X.fs->b∉frs X.stack:=λb h1 h2 z=>(yX.mp (I.stkSub b z)).elim h1 h2;refine⟨⟨I.ok.mod,S.kind,I.ok.glob,I.ok.blt,zR _,λx y c h1 h2=>I.ok.inj x y c (B6 h1) (B6 h2),λx hx=>?_,λx c h=>absurd h (by intro z;cases z),I.ok.hd,I.ok.frames,.inl rfl,λb hb=>?_,I.bs,zN I.ok.bsz I.sz,λb o e hb=>?_,λb hb=>?_,I.stack,I.stkFree⟩,
   rfl,I.bare,Un.kept hk,⟨m,fL,λi x v e1 e2 e3=>?_⟩,λx c e=>I4.cell x c (B6 e),I.hok.fresh (zR _),λx c e=>I4.freeC x c (B6 e),λp hp=>?_,I4.hok,?_⟩
 . have gQ:=FL (scope:=scope) (env:=X.env) (x:=x) (names:=scope.names) hx S.nocell;obtain⟨c,h,_⟩:=S.cells I.ok gQ;exact⟨c,h⟩
 . exact⟨zC (bi b hb),λx c e=>(g5 b hb).2.2.2.2.1 x c (B6 e)⟩
 . rcases (g5 b hb).2.2.2.1 with z | z;. exact I.ok.noex b o e z
   . exact absurd (zP (zM e) (zN I.ok.bsz z)) (yG _)
 . exact fN b (g5 b hb).2.1 (g5 b hb).2.2.1
 . have j8:∃j,fr[i]?=some (some j)/\σ[j]?=some (some v):=by
     unfold capt at e2;rw[zF] at e2;cases hf:fr[i]? with
     | none=>rw[hf] at e2;cases e2
     | some o=>
       rw[hf] at e2;cases o with
       | none=>cases e2
       | some j=>
         refine⟨j,rfl,?_⟩;have e2:((σ[j]?).join)=some v:=Option.some.inj e2;cases hs:σ[j]? with
         | none=>rw[hs] at e2;cases e2
         | some q=>rw[hs] at e2;cases q with
           | none=>cases e2
           | some v'=>cases e2;rfl
   obtain⟨j,f1,f2⟩:=j8;obtain⟨g1,g2,g3,g4⟩:=S.slot i j x e1 f1;obtain⟨m',fG,gK⟩:=I4.loc;obtain⟨u,r,l⟩:=gK j x v g1 f2 g3;rcases l with ⟨k,_⟩ | ⟨k,c,hc,dI⟩
   . exact absurd k g4
   . obtain⟨c',q1,q2⟩:=S.cells I.ok (a2K g2);rw[hc] at q2;cases q2;exact⟨u,r,.inr ⟨KR S.names (a2K g2) (λz=>z g2),c,q1,dI⟩⟩
 . have fb:p∈X.pn++pins:=by rw[a8Z] at hp;exact hp
   obtain⟨p1,p2,p3,p4,p5⟩:=I4.pin p fb;exact⟨p1,p2,zC (zM (I.pin p fb).1),fN _ p3 p4,p5⟩
 . unfold capt;rw[zX];exact S.len
def bJ (fr:List (Option Nat)) (wi:TI) (g:TG) (tt:TT) {Y:Type}(y0:Y) (at_:Y->HO) (el:Addr->Nat->(Nat->Y->Hp->Prop)->St->Hp->Prop):TE:=λσ H Q=>wi σ H λJ H1=>∀D,H1 D=none->∃W:Nat->Nat->Y->Hp->Prop,(∃m,W 0 m y0 (upd H1 D (at_ y0))) /\∀i m ys H2,W i m ys H2->H2 D=some (at_ ys)/\((J.stop i H2/\Q (.ref D) H2)\/(J.go i H2/\∀x H3,J.yld i H2 x H3->g x (capt fr σ) H3 λσ2 H4=>
   (∀(i:Nat) v,(capt fr σ)[i]?=some (some v)->σ2[i]?=some (some v))/\tt σ2 H4 λc H5=>if c=true then el D m (W (i+1)) σ2 H5 else ∃aj m',m' < m/\W (i+1) m' aj H5))
def bK (X:Cx) (pins:List (Addr×Obj)) (σ:St) (use:Option (Value->Sem Unit)) (Q:VK) (QQ:Value->Shared->Prop):Prop:=∀(D C:Addr) (H':Hp) (s':Shared) (m:Str->Option Value) (oC:Obj),Inv X (pins++[(C,oC)]) σ H' s'->s'.heap.Ns C m->Q (.ref D) H' ->(∀(dW:List (Addr×Obj)) (σ2:St) (H2:Hp) (s2:Shared) (h2:Heap),Inv X (pins++[(C,oC)]) σ2 H2 s2->Heap.SameBut C s2.heap h2->Inv X pins σ2 H2 { s2 with heap:=h2 }) ->
     s'.heap.get? C=some oC ->
     match use with
     | none=>∀h',Heap.SameBut C s'.heap h'->QQ (.ref D) { s' with heap:=h' }
     | some u=>wpAny (model X.prog X.w) X.A (u (.ref D)) (λ_ ft=>∃m,ft.heap.Ns C m/\∀h',Heap.SameBut C ft.heap h'->QQ .none { ft with heap:=h' }) X.xe s'
theorem Q9 {cE iter tg:Expr}{ifs:List Expr}{ae:Pos}{wi:TI}{g:TG}{tt:TT}{Y:Type}{y0:Y}{at_:Y->HO}{Ty:String}{dt:Data}{mk:Sem Value}{tl:Env->Addr->(Shared->Prop)->Shared->Prop}{el:Addr->Nat->(Nat->Y->Hp->Prop)->St->Hp->Prop}{use:Option (Value->Sem Unit)}{Q:VK}{QQ:Value->Shared->Prop} {gs:List Comprehension}(j9:clausesOf cE=⟨tg,iter,ifs,0⟩::gs) (jA:mk=newObj (.type Ty) dt none) (hsz:sizeOk dt) (jB:∀(H:Hp) (h:Heap),sysModules < h.objs.size->ObjOk X.prog X.w H (h.push { cls:=.type Ty,dict:=none,data:=dt }) h.objs.size (at_ y0)) (jC:RX X.prog X.w X.A cE tg ifs tl) (ci:∀{it acc:Value}{env:Env}{R:Result->Shared->Prop}{s:Shared},codeAny (model X.prog X.w) X.A (.compLoop cE 0 it acc env) R s->wpAny (model X.prog X.w) X.A (pyIter it) (λjD s'=>codeAny (model X.prog X.w) X.A (.compLoop cE 0 jD acc env) R s') (notedBy (model X.prog X.w) X.A env λx s'=>R (.error x) s') s->codeAny (model X.prog X.w) X.A (.compStart cE 0 it acc env) R s) (hc:X.calm=true) (S:CSc X scope NC fr) (hi:PI X tg iter wi) (hb:∀(C:Addr) (s:Shared) (H:Hp) (ex:List Addr) (pn:List (Addr×Obj)),PG (BO X scope NC C s H ex pn) tg g/\PTs (BO X scope NC C s H ex pn) ifs tt/\∀(g6:List (Addr×Obj)) (s':Shared) (σ:St) (H':Hp) (D:Addr) (n:Nat) (W:Nat->Y->Hp->Prop) (P:Shared->Prop),Inv (BO X scope NC C s H ex pn) g6 σ H' s'->el D n W σ H'->(∀m y H2 s2,m < n->W m y H2->Inv (BO X scope NC C s H ex pn) g6 σ H2 s2->P s2)->tl (BO X scope NC C s H ex pn).env D P s') (I:Inv X pins σ H s) (h:bJ fr wi g tt y0 at_ el σ H Q) (fin:bK X pins σ use Q QQ) (hs:∀x,foldedSetIterable iter X.env x=pure x) :
   wpAny (model X.prog X.w) X.A (comprehension cE scope X.env ae mk false (eval iter X.env) use) QQ X.xe s:=by
 refine wpAny_comprehension_free (use:=use) j9 hs (UU (S.has I.ok)) S.kind S.names (thn (hi pins s σ H _ I h) λv s1 h1=>thn h1 λgR s2 h2=>?_);obtain⟨it,fp,tn,J,H2,e,I2,T,e6,f2,hq⟩:=h2;subst e;have jE:H2 s2.heap.objs.size=none:=I2.hok.fresh (zR _);obtain⟨W,⟨m0,w0⟩,turn⟩:=hq s2.heap.objs.size jE;rw[jA];refine xN (hd:=hsz) (wpAny_newFunctionEnv S.nocell (by intro y hy;simp at hy) (λh₁ eO eQ=>?_) S.kind);dsimp only at eO eQ ⊢;generalize hs3:({ s2 with heap:=s2.heap.push { cls:=.type Ty,dict:=none,data:=dt } }:Shared)=s3;have g7:s2.heap.push { cls:=.type Ty,dict:=none,data:=dt }=s3.heap:=by rw[<-hs3]
 have I3:Inv X pins σ (upd H2 s2.heap.objs.size (at_ y0)) s3:=by rw[<-hs3];refine I2.laid (t':=s2.toks) (λb u e=>zW _ e) (zR _) ?_;exact jB _ _ I2.big
 rw[g7] at eO eQ ⊢;have jF:s3.heap.objs.size=s2.heap.objs.size+1:=by rw[<-g7,Heap.size_push]
 have i9:∀b∈fp,b < s2.heap.objs.size:=λb hb=>by obtain⟨o,e,_⟩:=T.obj _ _ e6 b hb;exact zM e
 have iF:∀b∈fp,b < s3.heap.objs.size:=λb hb=>by rw[jF];exact Nat.lt_succ_of_lt (i9 b hb)
 have f3:∀b∈fp,JF X pins (upd H2 s2.heap.objs.size (at_ y0)) b:=λb hb=>⟨by rw[AO (zC (i9 b hb))];exact(f2 b hb).1,(f2 b hb).2⟩
 have ee:∀b o,s3.heap.get? b=some o->h₁.get? b=some o:=λb o e=>eQ.extBut b o (zC (zM e)) (zW _ e);generalize hC:s3.heap.objs.size=C at eO eQ ⊢;have I0:Inv (BO X scope NC C s3 (upd H2 s2.heap.objs.size (at_ y0)) fp (X.pn++pins)) [] (capt fr σ) (upd H2 s2.heap.objs.size (at_ y0)) { s2 with heap:=h₁,toks:=s2.toks+([]:List (Str×Value)).length }:=by have:=NT (tk:=s2.toks+([]:List (Str×Value)).length) (h1:=h₁) S I3 f3 iF (hC▸eO) ee;rw[hC] at this;rw[<-hs3] at this;rw[<-hs3];exact this
 obtain⟨iG,iH,iI⟩:=hb C s3 (upd H2 s2.heap.objs.size (at_ y0)) fp (X.pn++pins);generalize hX':BO X scope NC C s3 (upd H2 s2.heap.objs.size (at_ y0)) fp (X.pn++pins)=X' at I0 iG iH iI;have eP:X'.prog=X.prog:=by rw[<-hX'];rfl
 have eW:X'.w=X.w:=by rw[<-hX'];rfl
 have eK:X'.K=X.K:=by rw[<-hX'];rfl
 have eA:X'.A=X.A:=by rw[<-hX'];rfl
 have eE:X'.env=compEnvC scope (GO X.env.cells scope.names []) C X.env:=by rw[<-hX'];rfl
 have eX:X'.xe=λ_ _=>False:=by rw[<-hX'];rfl
 have ec:X'.calm=true:=by rw[<-hX'];exact hc
 have stat:∀{H':Hp},(∀b∈fp,H' b=none)->∀b∈fp,JF X' [] H' b:=λ{H'} hn b hb=>by obtain⟨q1,q2,q3,q4,q5,q6⟩:=f3 b hb;rw[<-hX'];exact⟨hn b hb,by show b≠C;rw[<-hC];exact zC (iF b hb),λz=>(yX.mp (I3.stkSub b z)).elim q2 q3,.inl hb,λx c e=>q5 x c (B6 e),λp hp=>q6 p (by rw[a8Z] at hp;exact hp)⟩
 have ends:∀(i m:Nat) (ys:Y) (H':Hp) (s':Shared),Inv X' [] (capt fr σ) H' s'->Q (.ref s2.heap.objs.size) H' ->
     compPost (model X.prog X.w) X.A X.xe use QQ (.ref s2.heap.objs.size) C (.ok .next) s':=by
   intro i m ys H' s' I' q';have eC:X'.env.locals=C:=by rw[eE];rfl
   obtain⟨mC,g8,_⟩:=I'.loc;rw[eC] at g8;have jG:H' C=none:=by have:=I'.free;rw[eC] at this;exact this
   have un:Un (frs X.stack) fp (upd H2 s2.heap.objs.size (at_ y0)) H' s3.heap s'.heap:=by have:=I'.base;rw[<-hX'] at this;exact this
   have gT:s'.os=s3.os:=by have:=I'.os;rw[<-hX'] at this;exact this
   have fz:HOk X.prog X.w H' s'.heap:=by have:=I'.hok;rw[eP,eW] at this;exact this
   have fQ:Inv X pins σ H' s':=I3.call' (ch:=fp) gT un fz I'.bare λb hb=>⟨(f3 b hb).2.2.2.1,(f3 b hb).2.1,(f3 b hb).2.2.2.2.1,(f3 b hb).2.2.2.2.2⟩
   have C1:C≠X.env.locals:=by rw[<-hC];exact Nat.ne_of_gt I3.lt
   have C2:C∉X.fs:=by rw[<-hC];exact I3.nofs (zR _)
   have C3:X.s₀.heap.objs.size<=C:=by rw[<-hC];exact I3.sz
   have C4:∀x c,X.env.cells.lookup x=some c->c≠C:=λx c e z=>by obtain⟨v,q⟩:=I3.cell x c e;rw[z,<-hC] at q;exact absurd q.lt (yG _)
   have C5:∀p∈X.pn++pins,p.1≠C:=λp hp z=>by have:=zM (I3.pin p hp).1;rw[z,<-hC] at this;exact absurd this (yG _)
   obtain⟨oC,k8,k9,iJ,jH,kA⟩:=id g8;have gZ:Inv X (pins++[(C,oC)]) σ H' s':=fQ.pins_of λp hp=>(yW.mp hp).elim (λz=>fQ.pin p (zB _ z)) λz=>by
     have e:p=(C,oC):=by simpa using z
     subst e;exact⟨iJ,jG,C1,C2,λv z=>by rw[jH] at z;cases z⟩
   have res:=fin s2.heap.objs.size C H' s' mC oC gZ g8 q' (λ_ σ2 H3 s4 h4 I4 sb=>by have J4:Inv X pins σ2 H3 s4:=I4.unpinned;have jI:H3 C=none:=(I4.pin (C,oC) (zB _ (zB _ (by simp)))).2.1;exact J4.turned (t':=s4.toks) (it:=C) (λb o hb e=>sb.extBut b o hb e) jI C1 (.inr C3) C4 C5) iJ;cases use with
   | none=>exact⟨mC,g8,res⟩
   | some u=>exact res
 have loop:∀s':Shared,s'={ s2 with heap:=h₁,toks:=s2.toks+([]:List (Str×Value)).length } ->
     codeAny (model X.prog X.w) X.A (.compLoop cE 0 (.ref it) (.ref s2.heap.objs.size) (compEnvC scope (GO X.env.cells scope.names []) C X.env)) (compPost (model X.prog X.w) X.A X.xe use QQ (.ref s2.heap.objs.size) C) s':=by
   rintro s' rfl;refine jC _ _ _ _ (λn s'=>∃i ys H',Inv X' [] (capt fr σ) H' s'/\tn i s'.heap/\(∀b∈fp,H' b=none)/\W i n ys H') ?_ m0 _ ⟨0,y0,_,I0,T.keep _ _ _ e6 (λb hb o e=>ee b o (by rw[<-g7];exact zW _ e)),λb hb=>(f3 b hb).1,w0⟩;rintro n s5 ⟨i,ys,H5,I5,eI,gz,w5⟩;obtain⟨kB,fR⟩:=turn i n ys H5 w5;rcases fR with ⟨stop,qn⟩ | ⟨go,step⟩
   . have:=T.done X' eP eW eK ec i [] s5 (capt fr σ) H5 (λ_ _=>False) I5 (stat gz) eI stop;rw[eA] at this;refine thn this λr s6 ⟨hr,I6⟩=>?_;subst hr;exact ends i n ys H5 s6 I6 qn
   . have:=T.item X' eP eW eK ec i [] s5 (capt fr σ) H5 (λ_ _=>False) I5 (stat gz) eI go;rw[eA] at this;refine thn this λr s6 ⟨u,hr,h6⟩=>?_;subst hr;refine thn h6 λ_ s7 ⟨x,H7,I7,r7,y7,h_,jJ⟩=>?_;have jK:=I7.pinned (stat jJ) (T.obj _ _ h_);have iK:=iG _ s7 (capt fr σ) H7 x u _ jK r7 (step x H7 y7);rw[eP,eW,eA,eE,eX] at iK;refine thn iK λ_ s8 ⟨σ8,H8,I8,h9,q8⟩=>?_;have iL:=iH _ s8 σ8 H8 _ I8 q8;rw[eP,eW,eA,eE,eX] at iL;refine thn iL λok s9 ⟨H9,I9,q9⟩=>?_;have weak:∀{H':Hp}{s':Shared},Inv X' ([]++IB fp s7.heap) σ8 H' s'->Inv X' [] (capt fr σ) H' s'/\tn (i+1) s'.heap/\∀b∈fp,H' b=none:=λ{H' s'} I'=>by refine⟨I'.unpinned.weak (by rw[I'.len];rw[I0.len]) h9,T.keep _ _ _ h_ λb hb o e=>(I'.pin (b,o) (zB _ (zB _ (E4 hb e)))).1,λb hb=>?_⟩;obtain⟨o,e,d⟩:=T.obj _ _ h_ b hb;exact(I'.pin (b,o) (zB _ (zB _ (E4 hb e)))).2.1
     cases ok with
     | false=> rw[if_neg nft] at q9;obtain⟨aj,m',hU,w'⟩:=q9;obtain⟨a1,a2,a3⟩:=weak I9;exact⟨m',hU,i+1,aj,H9,a1,a2,a3,w'⟩
     | true=>
       rw[if_pos rfl] at q9;have iM:=iI _ s9 σ8 H9 _ n (W (i+1)) (λs'=>∃hW,hW < n/\∃i ys H',Inv X' [] (capt fr σ) H' s'/\tn i s'.heap/\(∀b∈fp,H' b=none)/\W i hW ys H') I9 q9 λm y H2 s2 hm w' I'=>by obtain⟨a1,a2,a3⟩:=weak I';exact⟨m,hm,i+1,y,H2,a1,a2,a3,w'⟩
       rw[eE] at iM;exact iM
 refine ci (loop _ rfl) (T.self _ 0 _ _ _ ?_ (loop _ rfl));exact T.keep _ _ _ e6 (λb hb o e=>ee b o (by rw[<-g7];exact zW _ e))
theorem RY {elt iter tg:Expr}{ifs:List Expr}{pos ae:Pos}{wi:TI}{g:TG}{tt:TT}{te:TE}{use:Option (Value->Sem Unit)}{Q:VK}{QQ:Value->Shared->Prop}(hc:X.calm=true) (S:CSc X scope NC fr) (hi:PI X tg iter wi) (hb:∀(C:Addr) (s:Shared) (H:Hp) (ex:List Addr) (pn:List (Addr×Obj)),PG (BO X scope NC C s H ex pn) tg g/\PTs (BO X scope NC C s H ex pn) ifs tt/\PE (BO X scope NC C s H ex pn) elt te) (I:Inv X pins σ H s) (h:OW fr wi g tt te σ H Q) (fin:bK X pins σ use Q QQ) (hs:∀x,foldedSetIterable iter X.env x=pure x) :
   wpAny (model X.prog X.w) X.A (comprehension (.ListComp elt [⟨tg,iter,ifs,0⟩] scope pos) scope X.env ae (newList []) false (eval iter X.env) use) QQ X.xe s:=by refine Q9 (y0:=[]) (at_:=.lst) (Ty:= "list") (dt:=.seq #[]) (tl:=tlL X.prog X.w X.A elt) (el:=λD m W σ2 H5=>te σ2 H5 λy H6=>∃aj,H6 D=some (.lst aj)/\aj.length < sizeLine/\∃m',m' < m/\W m' (aj++[y]) (upd H6 D (.lst (aj++[y])))) rfl rfl (by size_fits) (λH h _=>⟨xU _,[],0,.nil,yZ _ rfl⟩) UV codeAny_compStart_list hc S hi (λC s H ex pn=>⟨(hb C s H ex pn).1,(hb C s H ex pn).2.1,λg6 s' σ H' D n W P I q k=>?_⟩) I h fin hs;refine thn ((hb C s H ex pn).2.2 _ s' σ H' _ I q) λy jL ⟨yv,jM,jN,jO,aj,hD,hsz,m',hU,w'⟩=>?_;exact thn (K0 _ jL σ jM (.ref D) [yv] (.ref D) [y] (λ_ H'=>∃m',m' < n/\W m' (aj++[yv]) H') jN rfl (.cons jO .nil) ⟨_,aj,yv,rfl,rfl,hD,hsz,m',hU,w'⟩) λ_ kC ⟨_,kD,jP,_,hW,hX,jQ⟩=>k _ _ _ _ hX jQ jP
end
end L2
namespace L2
open PySem PySem.Spec PyProof.Rows
section
variable {X:Cx}{scope:Scope}{NC:List Str}{fr:List (Option Nat)}{elt iter tg:Expr}{ifs:List Expr}{pos:Pos}{wi:TI}{g:TG}{tt:TT}{te:TE}
theorem UX (hc:X.calm=true) (S:CSc X scope NC fr) (hi:PI X tg iter wi) (hb:∀(C:Addr) (s:Shared) (H:Hp) (ex:List Addr) (pn:List (Addr×Obj)),PG (BO X scope NC C s H ex pn) tg g/\PTs (BO X scope NC C s H ex pn) ifs tt/\PE (BO X scope NC C s H ex pn) elt te) (hs:∀x,foldedSetIterable iter X.env x=pure x:=by intro _;rfl):PE X (.ListComp elt [⟨tg,iter,ifs,0⟩] scope pos) (OW fr wi g tt te):=by intro pins s σ H Q I h;rw[eval_ListComp];refine RY (use:=none) (Q:=Q) hc S hi hb I h (λD C H' s' m oC I' hn q back _ h' sb=>?_) hs;exact⟨.ref D,H',back pins σ H' s' h' I' sb,rfl,q⟩
end
def Its (x:Str):It:=⟨λi _=>i < x.cps.size,λi H v H'=>H'=H/\∃c,x.cps[i]?=some c/\v = .str ⟨#[c]⟩,λi _=>i=x.cps.size⟩
theorem MD {P:Program}{w:World}{K:Frg}{tg:Expr}(it:Addr) (ty:String) (x:Str) (t:Tok) (fK:["enumerate", "zip", "dict_itemiterator", "dict_reverseitemiterator", "odict_iterator", "itertools.zip_longest", "itertools.pairwise"].contains ty=false) (W:∀A:Around,A.handled=none->Walks P w A it [it] [it] x.cps.size (SignAt x) (λi h=>h.IsStrIter it ty x t i)) (fS:∀(A:Around) (i:Nat) (s:Shared) (Q:Value->Shared->Prop) (E:Value->Shared->Prop),s.heap.IsStrIter it ty x t i->Q (.ref it) s->wpAny (model P w) A (pyIter (.ref it)) Q E s) :
   Turn P w K tg (Its x) [it] it (λi h=>h.IsStrIter it ty x t i) where
 mem:=by simp
 obj:=λi h st b hb=>by
   have e:b=it:=by simpa using hb
   subst e;obtain⟨o,e,c,d⟩:=st;exact⟨o,e,λv z=>by rw[d] at z;cases z⟩
 keep:=λi h h' st k=>by obtain⟨o,e,r⟩:=st;exact⟨o,k it (by simp) o e,r⟩
 item:=by intro X hP hw hK hc i pins s σ H E I hf st hg;subst hP hw hK;obtain⟨f0,f1,f2,f3,f4,f5⟩:=hf it (by simp);refine(W X.A (I.ok.hd hc)).item i s _ _ hg st λv h' tk hv cg kk=>?_;obtain⟨c,u,jR,rfl⟩:=hv;have I1:Inv X pins σ H { s with heap:=h',toks:=tk }:=I.turned (λb o hb e=>kk b o (by simpa using hb) e) f0 f1 f3 f4 f5;obtain⟨o,e,c',d⟩:=id cg;exact⟨_,rfl,OO (s:={ s with heap:=h',toks:=tk }) e c' d fK ⟨.str ⟨#[c]⟩,H,I1,⟨u,rfl⟩,⟨rfl,c,jR,rfl⟩,cg,λb hb=>(hf b hb).1⟩⟩
 done:=by intro X hP hw hK hc i pins s σ H E I hf st hg;subst hP hw hK;obtain⟨f0,f1,f2,f3,f4,f5⟩:=hf it (by simp);have hi:i=x.cps.size:=hg;subst hi;refine(W X.A (I.ok.hd hc)).done s _ _ st λh' tk kk=>⟨rfl,I.turned (λb o hb e=>kk b o (by simpa using hb) e) f0 f1 f3 f4 f5⟩
 self:=fS
theorem KS (bs:List Bool):(a3X bs.length).all (λi=>(bs[i]?).getD false)=bs.all id:=by
 rw[a2V,b0V,b0V];constructor;. intro h b hb;obtain⟨i,hi,rfl⟩:=List.mem_iff_getElem.mp hb;have:=h i (by simpa using hi);simpa [hi] using this
 . intro h i hi;have hi:i < bs.length:=by simpa using hi
   have:=h bs[i] (a2X hi);simpa [hi] using this
theorem KU (bs:List Bool):(a3X bs.length).any (λi=>(bs[i]?).getD false)=bs.any id:=by
 rw[a2V,b0W,b0W];constructor
 . rintro⟨i,hi,h⟩;have hi:i < bs.length:=by simpa using hi
   exact⟨bs[i],a2X hi,by simpa [hi] using h⟩
 . rintro⟨b,hb,h⟩;obtain⟨i,hi,rfl⟩:=List.mem_iff_getElem.mp hb;exact⟨i,by simpa using hi,by simpa [hi] using h⟩
section
variable {X:Cx}
theorem OX {bs:List Bool}{aa:List Value}(r:Vals (bs.map V.bl) aa) {i:Nat}{v:Value}(h:aa.toArray[i]?=some v):v = .bool ((bs[i]?).getD false):=by
 have h':aa[i]?=some v:=by simpa using h
 have hl:i < aa.length:=(yU.mp h').1;have e:=r.length;rw[zX] at e;have hb:(bs.map V.bl)[i]?=some (V.bl bs[i]):=by rw[zF];simp[show i < bs.length by omega]
 obtain⟨u,hu,ru⟩:=r.get hb;rw[h'] at hu;cases hu;simp[show i < bs.length by omega];exact ru
def cV (X:Cx):List V->Hp->VK->Prop:=λxs H Q=>∃(p:Addr) (bs:List Bool),xs=[.ref p]/\SqL X.K H p (bs.map V.bl)/\Q (.bl (bs.all id)) H
theorem RZ (hc:X.calm=true):B4 X (.builtin "all") (cV X):=by
 intro pins s σ H xs us Q I r h;obtain⟨p,bs,rfl,hp,q⟩:=h;obtain⟨u,rfl,ru⟩:=FZ r;cases ru;obtain⟨aa,rv,pl,hz⟩:=I.list hp;have ck:p≠s.heap.objs.size:=by obtain⟨o,n,e,_⟩:=pl;exact zC (zM e)
 have el:=rv.length;rw[zX] at el;refine call_all_walk (wpAny_pyIter_list pl.isList ?_);refine⟨s.heap.objs.size,_,_,_,_,_,λi=>(bs[i]?).getD false,rfl,Walks.list (show X.A.in1.handled=none from I.ok.hd hc) s.heap.objs.size p ck aa.toArray,⟨⟨_,yZ _ rfl,rfl,rfl⟩,?_⟩,λi v s' Q' E' hv hq=>?_,λh' tk hk=>?_⟩;. obtain⟨o,n,e,c,d,dd⟩:=pl;exact⟨o,zW _ e,c,n,dd⟩
 . rw[OX rv hv];exact wpAny_truthy_bool hq
 . refine⟨.bl (bs.all id),H,?_,?_,q⟩;. exact I.kept (t':=tk) λb o e=>hk b o (by simp;exact zC (zM e)) (zW _ e)
   . rw[zJ,<-el,KS];rfl
def cW (X:Cx):List V->Hp->VK->Prop:=λxs H Q=>∃(p:Addr) (bs:List Bool),xs=[.ref p]/\SqL X.K H p (bs.map V.bl)/\Q (.bl (bs.any id)) H
theorem S0 (hc:X.calm=true):B4 X (.builtin "any") (cW X):=by
 intro pins s σ H xs us Q I r h;obtain⟨p,bs,rfl,hp,q⟩:=h;obtain⟨u,rfl,ru⟩:=FZ r;cases ru;obtain⟨aa,rv,pl,hz⟩:=I.list hp;have ck:p≠s.heap.objs.size:=by obtain⟨o,n,e,_⟩:=pl;exact zC (zM e)
 have el:=rv.length;rw[zX] at el;refine call_any_walk (wpAny_pyIter_list pl.isList ?_);refine⟨s.heap.objs.size,_,_,_,_,_,λi=>(bs[i]?).getD false,rfl,Walks.list (show X.A.in1.handled=none from I.ok.hd hc) s.heap.objs.size p ck aa.toArray,⟨⟨_,yZ _ rfl,rfl,rfl⟩,?_⟩,λi v s' Q' E' hv hq=>?_,λh' tk hk=>?_⟩;. obtain⟨o,n,e,c,d,dd⟩:=pl;exact⟨o,zW _ e,c,n,dd⟩
 . rw[OX rv hv];exact wpAny_truthy_bool hq
 . refine⟨.bl (bs.any id),H,?_,?_,q⟩;. exact I.kept (t':=tk) λb o e=>hk b o (by simp;exact zC (zM e)) (zW _ e)
   . rw[zJ,<-el,KU];rfl
def YN:V->Option Int->Option Int->Hp->VK->Prop:=λx lo hi H Q=>∃y,x = .str y/\y.length<=sizeLine/\Q (.str (a0J y lo hi)) H
theorem YO:SlR X YN:=by
 intro pins s σ H x v vl vu lo hi sl Q I rx hs pl pu h;obtain⟨y,rfl,hz,q⟩:=h;obtain⟨t,rfl⟩:=rx;refine⟨"str", _,F.slot_str_getitem.lookup,typeIs_str _ _ _,?_⟩;cases pl with
 | none=>
   cases pu with
   | none=>exact wpAny_getItem_str_slice (l:=none) (u:=none) (st:=none) hs rfl (post_val_or_str ⟨zN (Txt.slice_le y _ _) hz,λt' k=>⟨.str _,H,I.tok _,⟨_,rfl⟩,q⟩⟩)
   | int j tj=>exact wpAny_getItem_str_slice (l:=none) (u:=some (j,tj)) (st:=none) hs rfl (post_val_or_str ⟨zN (Txt.slice_le y _ _) hz,λt' k=>⟨.str _,H,I.tok _,⟨_,rfl⟩,q⟩⟩)
 | int i ti=>
   cases pu with
   | none=>exact wpAny_getItem_str_slice (l:=some (i,ti)) (u:=none) (st:=none) hs rfl (post_val_or_str ⟨zN (Txt.slice_le y _ _) hz,λt' k=>⟨.str _,H,I.tok _,⟨_,rfl⟩,q⟩⟩)
   | int j tj=>exact wpAny_getItem_str_slice (l:=some (i,ti)) (u:=some (j,tj)) (st:=none) hs rfl (post_val_or_str ⟨zN (Txt.slice_le y _ _) hz,λt' k=>⟨.str _,H,I.tok _,⟨_,rfl⟩,q⟩⟩)
def WV (K:Frg):R2:=λx y H Q=>∃a b xs ys,x = .ref a/\y = .ref b/\SqL K H a xs/\SqL K H b ys/\xs.length+ys.length<=sizeLine/\∀p,H p=none->Q (.ref p) (upd H p (.lst (xs++ys)))
theorem UY:OpR X (binaryOp .Add) (WV X.K):=by
 intro pins s σ H x y v u Q I rx ry h;obtain⟨l,b,xs,zs,rfl,rfl,hH,hB,hz,q⟩:=h;cases rx;cases ry;obtain⟨aa,r,pl,hl⟩:=I.list hH;obtain⟨bh,r2,jS,e9⟩:=I.list hB;have e1:=r.length;have e2:=r2.length;obtain⟨⟨cls,dd,data,sl⟩,n,ho,hc,_,hd⟩:=pl;obtain⟨⟨ia,fT,data2,fU⟩,n2,cy,hc2,_,hd2⟩:=jS;dsimp only at hc hd hc2 hd2;subst hc hd hc2 hd2;have ea:aa.toArray++bh.toArray=(aa++bh).toArray:=by simp
 have fin:EP X pins σ Q (.ref s.heap.objs.size) { s with heap:=s.heap.push { cls:=.type "list", data:=.seq (aa.toArray++bh.toArray) } }:=by rw[ea];exact⟨.ref _,_,I.lnew (t':=s.toks) (r.append r2) (by rw[yY];omega),rfl,q _ I.fresh⟩
 exact concat_meets ⟨_,ho,rfl⟩ ⟨_,cy,rfl⟩ noFill_list_add seq_list_add PySem.F.slot_list_add PySem.F.entry_list_add (PySem.F.args_list_add_2 _ _) (list_addW l b aa.toArray bh.toArray n n2 dd fT sl fU (by rw[zJ,zJ];omega)) ⟨ho,cy,fin⟩
def WW (i j:Int):Prop:=0 < j/\j < 2 ^ 64
theorem S1:OpR X (binaryOp .FloorDiv) (rI WW λi j=>.int (i/j)):=opI λi j _ _ _ _ _ hc q=>by
 have h1:(0:Int) < j:=hc.1;have h2:j.natAbs.log2 < 9000:=by
   have h0:j.natAbs≠0:=by omega
   have:j.natAbs < 2 ^ 64:=by have:=hc.2;omega
   exact zP ((Nat.log2_lt h0).mpr this) (by decide)
 exact floordiv_int (by omega) (by rw[Int.fdiv_eq_ediv_of_nonneg i (by omega)];exact q) (.inl (PyProof.noPylong_of_log2 h2))
end
end L2
namespace L2
open PySem PySem.Spec PyProof.Rows
def bL:Key->PyData
 | .inl i=>.int i
 | .inr x=>.str x
def LW (K:Frg) (H:Hp) (W:Addr->Prop) (a:Addr) (xs:List V):Prop:=(¬W a/\Rd H a (.lst xs))\/∃(o:Obj) (aa:Array Value) (n:Nat),K.lookup a=some o/\o.cls = .type "list" /\ o.dict=none/\o.data = .seq aa n/\aa.size<=sizeLine/\Vals xs aa.toList
def TW (K:Frg) (H:Hp) (W:Addr->Prop) (a:Addr) (xs:List V):Prop:=(¬W a/\Rd H a (.tup xs))\/∃(o:Obj) (aa:Array Value) (n:Nat),K.lookup a=some o/\o.cls = .type "tuple" /\ o.data = .seq aa n/\aa.size<=sizeLine/\Vals xs aa.toList
theorem LW.sq {K:Frg}{H:Hp}{W:Addr->Prop}{a:Addr}{xs:List V}(h:LW K H W a xs):SqL K H a xs:=h.elim (λz=>.inl z.2) .inr
theorem TW.sq {K:Frg}{H:Hp}{W:Addr->Prop}{a:Addr}{xs:List V}(h:TW K H W a xs):SqT K H a xs:=h.elim (λz=>.inl z.2) .inr
mutual
def DV (K:Frg) (H:Hp) (W:Addr->Prop):PyData->V->Prop
 | .none,v=>v = .non
 | .bool b,v=>v = .bl b
 | .int i,v=>v = .int i
 | .str x,v=>v = .str x
 | .list ds,v=>∃a vs,v = .ref a/\LW K H W a vs/\DVs K H W ds vs
 | .tuple ds,v=>∃a vs,v = .ref a/\TW K H W a vs/\DVs K H W ds vs
 | .dict kvs,v=>∃a fV,v = .ref a/\¬W a/\Rd H a (.dK fV)/\DKV K H W kvs fV
def DVs (K:Frg) (H:Hp) (W:Addr->Prop):List PyData->List V->Prop
 | [],vs=>vs=[]
 | d::ds,vs=>∃v r,vs=v::r/\DV K H W d v/\DVs K H W ds r
def DKV (K:Frg) (H:Hp) (W:Addr->Prop):List (PyData×PyData)->List (Key×V)->Prop
 | [],vs=>vs=[]
 | (k,d)::ds,vs=>∃k' v r,vs=(k',v)::r/\k=bL k'/\DV K H W d v/\DKV K H W ds r
end
structure Grow (K:Frg) (W W':Addr->Prop) (H H':Hp):Prop where
 keep:∀b o,H b=some o->¬W b->H' b=some o\/∃ks ob,o = .dK ks/\H' b=some (.frz ob o)
 new:∀b,W' b->W b\/H b=none
theorem Grow.refl {K:Frg}{W:Addr->Prop}{H:Hp}:Grow K W W H H:=⟨λ_ _ h _=>.inl h,λ_ h=>.inl h⟩
section
variable {K:Frg}{W W' W2:Addr->Prop}{H H' H2:Hp}
theorem Rd.grow (g:Grow K W W' H H') {a:Addr}{o:HO}(nw:¬W a) (h:Rd H a o):Rd H' a o:=by
 rcases h with h | ⟨o',h⟩
 . rcases g.keep _ _ h nw with e | ⟨ks,ob,_,e⟩
   . exact .inl e
   . exact .inr ⟨ob,e⟩
 . rcases g.keep _ _ h nw with e | ⟨ks,ob,e,_⟩
   . exact .inr ⟨o',e⟩
   . cases e
theorem Grow.kept (g:Grow K W W' H H') {a:Addr}{o:HO}(h:H a=some o) (nw:¬W a) (n:∀ks,o≠.dK ks):H' a=some o:=(g.keep a o h nw).elim id λ⟨ks,_,e,_⟩=>absurd e (n ks)
theorem Rd.ne_none {H:Hp}{a:Addr}{o:HO}(h:Rd H a o):H a≠none:=by rcases h with h | ⟨o',h⟩ <;> rw[h] <;> simp
theorem Rd.nw (g:Grow K W W' H H') {a:Addr}{o:HO}(nw:¬W a) (h:Rd H a o):¬W' a:=λw=>by
 rcases g.new a w with z | z;. exact nw z
 . exact Rd.ne_none h z
theorem LW.grow (g:Grow K W W' H H') {a:Addr}{xs:List V}(h:LW K H W a xs):LW K H' W' a xs:=h.elim (λz=>.inl ⟨z.2.nw g z.1,z.2.grow g z.1⟩) .inr
theorem TW.grow (g:Grow K W W' H H') {a:Addr}{xs:List V}(h:TW K H W a xs):TW K H' W' a xs:=h.elim (λz=>.inl ⟨z.2.nw g z.1,z.2.grow g z.1⟩) .inr
mutual
theorem DV.grow (g:Grow K W W' H H'):∀{d:PyData}{v:V},DV K H W d v->DV K H' W' d v
 | .none,v,h=>by unfold DV at h ⊢;exact h
 | .bool b,v,h=>by unfold DV at h ⊢;exact h
 | .int i,v,h=>by unfold DV at h ⊢;exact h
 | .str x,v,h=>by unfold DV at h ⊢;exact h
 | .list ds,v,h=>by unfold DV at h ⊢;obtain⟨a,vs,e,hs,hd⟩:=h;exact⟨a,vs,e,hs.grow g,DVs.grow g hd⟩
 | .tuple ds,v,h=>by unfold DV at h ⊢;obtain⟨a,vs,e,hs,hd⟩:=h;exact⟨a,vs,e,hs.grow g,DVs.grow g hd⟩
 | .dict kvs,v,h=>by unfold DV at h ⊢;obtain⟨a,vs,e,nw,hs,hd⟩:=h;exact⟨a,vs,e,hs.nw g nw,hs.grow g nw,DKV.grow g hd⟩
theorem DVs.grow (g:Grow K W W' H H'):∀{ds:List PyData}{vs:List V},DVs K H W ds vs->DVs K H' W' ds vs
 | [],vs,h=>by unfold DVs at h ⊢;exact h
 | d::ds,vs,h=>by unfold DVs at h ⊢;obtain⟨v,r,e,h1,h2⟩:=h;exact⟨v,r,e,DV.grow g h1,DVs.grow g h2⟩
theorem DKV.grow (g:Grow K W W' H H'):∀{ds:List (PyData×PyData)}{vs:List (Key×V)},DKV K H W ds vs->DKV K H' W' ds vs
 | [],vs,h=>by unfold DKV at h ⊢;exact h
 | (k,d)::ds,vs,h=>by unfold DKV at h ⊢;obtain⟨k',v,r,e,e2,h1,h2⟩:=h;exact⟨k',v,r,e,e2,DV.grow g h1,DKV.grow g h2⟩
end
theorem Grow.trans (a:Grow K W W' H H') (b:Grow K W' W2 H' H2):Grow K W W2 H H2:=by
 refine⟨λx o h nw=>?_,λx w=>?_⟩
 . have iN:¬W' x:=λw=>by
     rcases a.new x w with z | z;. exact nw z
     . rw[h] at z;cases z
   rcases a.keep x o h nw with e | ⟨ks,ob,e1,e2⟩
   . exact b.keep x o e iN
   . exact .inr ⟨ks,ob,e1,b.kept e2 iN λ_ z=>nomatch z⟩
 . rcases b.new x w with z | z1;. exact a.new x z
   . by_cases hx:W x;. exact .inl hx
     . refine .inr ?_;cases e:H x with
       | none=>rfl
       | some o=> rcases a.keep x o e hx with q | ⟨_,_,_,q⟩ <;> (rw[q] at z1;cases z1)
theorem DVs.length:∀{ds:List PyData}{vs:List V},DVs K H W ds vs->vs.length=ds.length
 | [],vs,h=>by unfold DVs at h;subst h;rfl
 | d::ds,vs,h=>by unfold DVs at h;obtain⟨v,r,e,h1,h2⟩:=h;subst e;simp[DVs.length h2]
theorem DVs.get:∀{ds:List PyData}{vs:List V}{i:Nat}{v:V},DVs K H W ds vs->vs[i]?=some v->∃d,ds[i]?=some d/\DV K H W d v
 | [],vs,i,v,h,e=>by unfold DVs at h;subst h;simp at e
 | d::ds,vs,i,v,h,e=>by
   unfold DVs at h;obtain⟨u,r,e',h1,h2⟩:=h;subst e';cases i with
   | zero=>simp at e;subst e;exact⟨d,rfl,h1⟩
   | succ i=>simpa using DVs.get h2 (by simpa using e)
theorem DVs.get':∀{ds:List PyData}{vs:List V}{i:Nat}{d:PyData},DVs K H W ds vs->ds[i]?=some d->∃v,vs[i]?=some v/\DV K H W d v
 | [],vs,i,v,h,e=>by simp at e
 | d::ds,vs,i,v,h,e=>by
   unfold DVs at h;obtain⟨u,r,e',h1,h2⟩:=h;subst e';cases i with
   | zero=>simp at e;subst e;exact⟨u,rfl,h1⟩
   | succ i=>simpa using DVs.get' h2 (by simpa using e)
theorem DVs.nil:DVs K H W [] []:=by unfold DVs;rfl
theorem DVs.cons {d:PyData}{v:V}{ds:List PyData}{vs:List V}(h:DV K H W d v) (t:DVs K H W ds vs):DVs K H W (d::ds) (v::vs):=by unfold DVs;exact⟨v,vs,rfl,h,t⟩
theorem DVs.append:∀{ds es:List PyData}{vs us:List V},DVs K H W ds vs->DVs K H W es us->DVs K H W (ds++es) (vs++us)
 | [],es,vs,us,h,t=>by unfold DVs at h;subst h;exact t
 | d::ds,es,vs,us,h,t=>by unfold DVs at h;obtain⟨u,r,e',h1,h2⟩:=h;subst e';exact DVs.cons h1 (DVs.append h2 t)
theorem DVs.set:∀{ds:List PyData}{vs:List V}{d:PyData}{v:V}(i:Nat),DVs K H W ds vs->DV K H W d v->DVs K H W (ds.set i d) (vs.set i v)
 | [],vs,d,v,i,h,t=>by unfold DVs at h;subst h;exact DVs.nil
 | e::ds,vs,d,v,i,h,t=>by
   unfold DVs at h;obtain⟨u,r,e',h1,h2⟩:=h;subst e';cases i with
   | zero=>exact DVs.cons t h2
   | succ i=>exact DVs.cons h1 (DVs.set i h2 t)
theorem DVs.drop:∀{ds:List PyData}{vs:List V}(i:Nat),DVs K H W ds vs->DVs K H W (ds.drop i) (vs.drop i)
 | ds,vs,0,h=>h
 | [],vs,i+1,h=>by unfold DVs at h;subst h;exact DVs.nil
 | e::ds,vs,i+1,h=>by unfold DVs at h;obtain⟨u,r,e',h1,h2⟩:=h;subst e';exact DVs.drop i h2
theorem DVs.take:∀{ds:List PyData}{vs:List V}(i:Nat),DVs K H W ds vs->DVs K H W (ds.take i) (vs.take i)
 | ds,vs,0,h=>DVs.nil
 | [],vs,i+1,h=>by unfold DVs at h;subst h;exact DVs.nil
 | e::ds,vs,i+1,h=>by unfold DVs at h;obtain⟨u,r,e',h1,h2⟩:=h;subst e';exact DVs.cons h1 (DVs.take i h2)
theorem GP:∀{bs:List Bool}{vs:List V},DVs K H W (bs.map PyData.bool) vs->vs=bs.map V.bl
 | [],vs,h=>by unfold DVs at h;exact h
 | b::bs,vs,h=>by simp only[zI] at h;unfold DVs at h;obtain⟨u,r,e',h1,h2⟩:=h;unfold DV at h1;subst e' h1;rw[GP h2];rfl
theorem IH:∀{bs:List Str}{vs:List V},DVs K H W (bs.map a0Z) vs->vs=bs.map V.str
 | [],vs,h=>by unfold DVs at h;exact h
 | b::bs,vs,h=>by simp only[zI] at h;unfold DVs at h;obtain⟨u,r,e',h1,h2⟩:=h;unfold DV at h1;subst e' h1;rw[IH h2];rfl
end
section
variable {X:Cx}{pins:List (Addr×Obj)}{σ:St}{H:Hp}{s:Shared}{W:Addr->Prop}
mutual
theorem DV.reads (I:Inv X pins σ H s):∀{d:PyData}{v:V}{u:Value},d.canLay0=true->DV X.K H W d v->RelV v u->∃as,PySem.Reads s.heap u d as
 | .none,v,u,c,h,r=>by unfold DV at h;subst h;cases r;exact⟨_,.none⟩
 | .bool b,v,u,c,h,r=>by unfold DV at h;subst h;cases r;exact⟨_,.bool b⟩
 | .int i,v,u,c,h,r=>by unfold DV at h;subst h;obtain⟨t,rfl⟩:=r;exact⟨_,.int i t⟩
 | .str x,v,u,c,h,r=>by unfold DV at h;subst h;obtain⟨t,rfl⟩:=r;exact⟨_,.str x t⟩
 | .list ds,v,u,c,h,r=>by unfold DV at h;obtain⟨a,vs,rfl,hs,hd⟩:=h;cases r;obtain⟨aa,rv,⟨o,n,e,hc,_,dd⟩,_⟩:=I.list hs.sq;obtain⟨as,q⟩:=DVs.reads I (by simpa [a8V] using c) hd rv;exact⟨_,.list e hc dd (by simpa using q)⟩
 | .tuple ds,v,u,c,h,r=>by unfold DV at h;obtain⟨a,vs,rfl,hs,hd⟩:=h;cases r;obtain⟨aa,rv,⟨o,e,hc,n,dd⟩,_⟩:=I.tuple hs.sq;obtain⟨as,q⟩:=DVs.reads I (by simpa [a8V] using c) hd rv;exact⟨_,.tuple e hc dd (by simpa using q)⟩
 | .dict kvs,v,u,c,h,r=>by simp[a8V] at c
theorem DVs.reads (I:Inv X pins σ H s):∀{ds:List PyData}{vs:List V}{us:List Value},a0K ds=true->DVs X.K H W ds vs->Vals vs us->∃as,PySem.ReadsAll s.heap us ds as
 | [],vs,us,c,h,r=>by unfold DVs at h;subst h;cases r;exact⟨_,.nil⟩
 | d::ds,vs,us,c,h,r=>by
   unfold DVs at h;obtain⟨v,q,rfl,h1,h2⟩:=h;cases r with
   | cons r1 r2=> simp[a0K] at c;obtain⟨as,q1⟩:=DV.reads I c.1 h1 r1;obtain⟨bs,q2⟩:=DVs.reads I c.2 h2 r2;exact⟨_,.cons q1 q2⟩
end
def JH (K:Frg) (neg:Bool):R2:=λx y H Q=>∃(W:Addr->Prop) (da db:PyData),DV K H W da x/\DV K H W db y/\zH da=true/\zH db=true/\Q (.bl (if neg then !a0V da db else a0V da db)) H
theorem S2 (hu:X.A.units+64 < cLine):OpR X (compareOp .Eq) (JH X.K false):=by intro pins s σ H x y v u Q I rx ry h;obtain⟨W,da,db,h1,h2,s1,s2,q⟩:=h;obtain⟨as,r1⟩:=h1.reads I (zG s1) rx;obtain⟨bs,r2⟩:=h2.reads I (zG s2) ry;exact PySem.SeqAt.compareEq_shaped r1 r2 s1 s2 hu ⟨.bl _,H,I,rfl,q⟩
theorem S3 (hu:X.A.units+64 < cLine):OpR X (compareOp .NotEq) (JH X.K true):=by intro pins s σ H x y v u Q I rx ry h;obtain⟨W,da,db,h1,h2,s1,s2,q⟩:=h;obtain⟨as,r1⟩:=h1.reads I (zG s1) rx;obtain⟨bs,r2⟩:=h2.reads I (zG s2) ry;exact PySem.SeqAt.compareNe_shaped r1 r2 s1 s2 hu ⟨.bl _,H,I,rfl,q⟩
end
end L2
namespace DL
open PySem PySem.Spec L2
abbrev St:=L2.St
inductive MO where
 | l (ds:List PyData)
 | d (kvs:List (PyData×PyData))
 | t (kvs:List (List Key×PyData))
 | x (C:Addr) (fs:List (Str×PyData))
abbrev Own:=Addr->Option MO
def Own.W (M:Own):Addr->Prop:=λa=>M a≠none
def Own.put (M:Own) (a:Addr) (o:MO):Own:=λb=>if b=a then some o else M b
def Own.del (M:Own) (a:Addr):Own:=λb=>if b=a then none else M b
def Own.Sub (M N:Own):Prop:=∀a o,M a=some o->N a=some o
theorem zU {M:Own}{a:Addr}{o:MO}:M.put a o a=some o:=by unfold Own.put;rw[if_pos rfl]
theorem yI {M:Own}{a b:Addr}{o:MO}(h:b≠a):M.put a o b=M b:=by unfold Own.put;rw[if_neg h]
theorem yJ {M:Own}{a:Addr}{o o':MO}:(M.put a o).put a o'=M.put a o':=by funext b;unfold Own.put;by_cases h:b=a <;> simp[h]
theorem yH {M:Own}{a:Addr}{o:MO}(h:M a=none):(M.put a o).del a=M:=by
 funext b;unfold Own.put Own.del;by_cases e:b=a;. subst e;simp[h]
 . simp[e]
theorem zT (M:Own):M.Sub M:=λ_ _ h=>h
theorem Own.Sub.put {M N:Own}{a:Addr}{o:MO}(h:M.Sub N) (n:M a=none):M.Sub (N.put a o):=λb x e=>by rw[yI (by rintro rfl;rw[n] at e;cases e)];exact h b x e
inductive DS where
 | d (x:PyData)
 | loc (a:Addr)
 | ty (n:String)
 | tl (ds:List PyData) (a:Addr)
def SI (K:Frg) (H:Hp) (M:Own):DS->V->Prop
 | .d x,v=>DV K H M.W x v
 | .loc a,v=>v = .ref a
 | .ty n,v=>v = .ty n
 | .tl ds a,v=>∃b vs,v = .ref b/\TW K H M.W b (vs++[.ref a])/\DVs K H M.W ds vs
def SIs (K:Frg) (H:Hp) (M:Own):List DS->List V->Prop
 | [],vs=>vs=[]
 | d::ds,vs=>∃v r,vs=v::r/\SI K H M d v/\SIs K H M ds r
def XI (K:Frg) (H:Hp) (W:Addr->Prop):Option Addr->List (Str×PyData)->Prop
 | none,[]=>True
 | some d,[(n,x)]=>∃v,¬W d/\H d=some (.xd [(n,v)])/\DV K H W x v
 | _,_=>False
theorem XI.grow {K:Frg}{W W':Addr->Prop}{H H':Hp}(g:Grow K W W' H H') {dd:Option Addr}{fs:List (Str×PyData)}(h:XI K H W dd fs):XI K H' W' dd fs:=by
 unfold XI at h ⊢;split at h;. trivial
 . obtain⟨v,nw,a,b⟩:=h;exact⟨v,λz=>(g.new _ z).elim nw λq=>by(rw[a] at q;cases q),g.kept a nw (λ_ z=>nomatch z),b.grow g⟩
 . exact h.elim
def exK (a C:Addr) (dd:Option Addr):HO:=.ext λh=>∃o vs,h.get? a=some o/\o.cls = .ref C/\o.dict=dd/\o.data = .fields vs
def DTV (K:Frg) (H:Hp) (W:Addr->Prop) (kvs:List (List Key×PyData)) (ks:List (List Key×V)):Prop:=ks.map (·.1)=kvs.map (·.1)/\DVs K H W (kvs.map (·.2)) (ks.map (·.2))
theorem DTV.grow {K:Frg}{W W':Addr->Prop}{H H':Hp}(g:Grow K W W' H H') {kvs:List (List Key×PyData)}{ks:List (List Key×V)}(h:DTV K H W kvs ks):DTV K H' W' kvs ks:=⟨h.1,h.2.grow g⟩
def OA1 (K:Frg) (H:Hp) (M:Own) (a:Addr):MO->Prop
 | .x C fs=>∃dd,H a=some (exK a C dd)/\XI K H M.W dd fs
 | .l ds=>∃vs,H a=some (.lst vs)/\DVs K H M.W ds vs
 | .d kvs=>∃ks,H a=some (.dK ks)/\DKV K H M.W kvs ks
 | .t kvs=>∃ks,H a=some (.dT ks)/\DTV K H M.W kvs ks
def OA (K:Frg) (H:Hp) (M:Own):Prop:=∀a o,M a=some o->OA1 K H M a o
structure Step (K:Frg) (M M':Own) (H H':Hp):Prop where
 grow:Grow K M.W M'.W H H'
structure Rel (K:Frg) (M:Own) (ρ:List (Option DS)) (σ:St) (H:Hp):Prop where
 own:OA K H M
 len:ρ.length=σ.length
 slot:∀(i:Nat) x,ρ[i]?=some (some x)->∃v,σ[i]?=some (some v)/\SI K H M x v
section
variable {K:Frg}{M M' M2:Own}{H H' H2:Hp}{ρ:List (Option DS)}{σ:St}
theorem Step.refl:Step K M M H H:=⟨Grow.refl⟩
theorem Step.trans (a:Step K M M' H H') (b:Step K M' M2 H' H2):Step K M M2 H H2:=⟨a.grow.trans b.grow⟩
theorem SI.step (st:Step K M M' H H'):∀{x:DS}{v:V},SI K H M x v->SI K H' M' x v
 | .d _,_,h=>DV.grow st.grow h
 | .loc _,_,h=>h
 | .ty _,_,h=>h
 | .tl _ _,_,⟨b,vs,e,h1,h2⟩=>⟨b,vs,e,h1.grow st.grow,h2.grow st.grow⟩
theorem Rel.step (R:Rel K M ρ σ H) (oa:OA K H' M') (st:Step K M M' H H'):Rel K M' ρ σ H':=⟨oa,R.len,λi x e=>let ⟨v,h1,h2⟩:=R.slot i x e;⟨v,h1,h2.step st⟩⟩
theorem Rel.set (R:Rel K M ρ σ H) {x:DS}{v:V}(h:SI K H M x v) (i:Nat):Rel K M (ρ.set i (some x)) (σ.set i (some v)) H:=by
 refine⟨R.own,by rw[List.length_set,List.length_set];exact R.len,λj y e=>?_⟩;rw[List.getElem?_set] at e ⊢;by_cases dY:i=j
 . rw[if_pos dY] at e ⊢;subst dY;by_cases hl:i < ρ.length;. rw[if_pos hl] at e;cases e;rw[if_pos (by rw[<-R.len];exact hl)];exact⟨v,rfl,h⟩
   . rw[if_neg hl] at e;cases e
 . rw[if_neg dY] at e ⊢;exact R.slot j y e
theorem OA.none (oa:OA K H M) {p:Addr}(h:H p=a9V):M p=a9V:=by
 cases e:M p with
 | none=>rfl
 | some o=> have:=oa p o e;cases o <;> (obtain⟨vs,q,_⟩:=this;rw[h] at q;cases q)
theorem BD {p:Addr}{o:HO}(W:Addr->Prop) (h:H p=a9V):Grow K W W H (upd H p o):=⟨λb u e _=>.inl (by rw[AO (B5 e h)];exact e),λ_ w=>.inl w⟩
theorem OA.grow (oa:OA K H M) (g:Grow K M.W M.W H H') (hk:∀a o,M a=some o->H' a=H a):OA K H' M:=λa o e=>by have q:=oa a o e;cases o <;> (obtain⟨vs,q1,q2⟩:=q;exact⟨vs,by rw[hk a _ e];exact q1,q2.grow g⟩)
theorem OA.new {p:Addr}{o:HO}(oa:OA K H M) (h:H p=a9V):OA K (upd H p o) M:=oa.grow (BD _ h) λa x e=>by rw[AO (by rintro rfl;rw[oa.none h] at e;cases e)]
theorem OY {p:Addr}{vs:List V}{ds:List PyData}(oa:OA K H M) (h:H p=a9V) (hd:DVs K H M.W ds vs) :
   OA K (upd H p (.lst vs)) (M.put p (.l ds))/\Step K M (M.put p (.l ds)) H (upd H p (.lst vs)):=by
 have hM:=oa.none h;have g:Grow K M.W (M.put p (.l ds)).W H (upd H p (.lst vs)):=⟨λb u e _=>.inl (by rw[AO (B5 e h)];exact e),λb w=>by
   by_cases hb:b=p;. subst hb;exact .inr h
   . left;unfold Own.W at w ⊢;rw[yI hb] at w;exact w⟩
 refine⟨λa o e=>?_,⟨g⟩⟩
 . by_cases ha:a=p;. subst ha;rw[zU] at e;cases e;exact⟨vs,AN,hd.grow g⟩
   . rw[yI ha] at e;have q:=oa a o e;cases o <;> (obtain⟨vs,q1,q2⟩:=q;exact⟨vs,by rw[AO ha];exact q1,q2.grow g⟩)
theorem GQ {p:Addr}{f_:List V}{eR:List PyData}{o:MO}(oa:OA K H M) (h:M p=some o) (hd:DVs K H M.W eR f_) :
   OA K (upd H p (.lst f_)) (M.put p (.l eR))/\Step K M (M.put p (.l eR)) H (upd H p (.lst f_)):=by
 have hw:∀b,(M.put p (.l eR)).W b->M.W b:=λb w=>by
   unfold Own.W at w ⊢;by_cases hb:b=p;. subst hb;rw[h];simp
   . rw[yI hb] at w;exact w
 have g:Grow K M.W (M.put p (.l eR)).W H (upd H p (.lst f_)):=⟨λb u e nw=>.inl (by
   rw[AO (by rintro rfl;exact nw (by unfold Own.W;rw[h];simp))];exact e),λb w=>.inl (hw b w)⟩
 refine⟨λa o e=>?_,⟨g⟩⟩
 . by_cases ha:a=p;. subst ha;rw[zU] at e;cases e;exact⟨f_,AN,hd.grow g⟩
   . rw[yI ha] at e;have q:=oa a o e;cases o <;> (obtain⟨vs,q1,q2⟩:=q;exact⟨vs,by rw[AO ha];exact q1,q2.grow g⟩)
theorem B1 (hs:M'.Sub M):Grow K M.W M'.W H H:=⟨λ_ _ e _=>.inl e,λb w=>.inl (by
 unfold Own.W at w ⊢;cases e:M' b with
 | none=>exact absurd e w
 | some o=>rw[hs b o e];simp)⟩
theorem OA.sub (oa:OA K H M) (hs:M'.Sub M):OA K H M':=λa o e=>by have q:=oa a o (hs a o e);cases o <;> (obtain⟨vs,q1,q2⟩:=q;exact⟨vs,q1,q2.grow (B1 hs)⟩)
theorem SI.sub (hs:M'.Sub M):∀{x:DS}{v:V},SI K H M x v->SI K H M' x v
 | .d _,_,h=>DV.grow (B1 hs) h
 | .loc _,_,h=>h
 | .ty _,_,h=>h
 | .tl _ _,_,⟨b,vs,e,h1,h2⟩=>⟨b,vs,e,h1.grow (B1 hs),h2.grow (B1 hs)⟩
end
def DE (K:Frg) (t:TE) (ρ:List (Option DS)) (M:Own) (Q:DS->Own->Prop):Prop:=∀(σ:St) (H:Hp) (QQ:VK),Rel K M ρ σ H->(∀v H' x M',OA K H' M'->SI K H' M' x v->Step K M M' H H'->Q x M'->QQ v H')->t σ H QQ
def DT (K:Frg) (t:TT) (ρ:List (Option DS)) (M:Own) (Q:Bool->Own->Prop):Prop:=∀(σ:St) (H:Hp) (QQ:Bool->Hp->Prop),Rel K M ρ σ H->(∀b H' M',OA K H' M'->Step K M M' H H'->Q b M'->QQ b H')->t σ H QQ
def DA (K:Frg) (t:TA) (ρ:List (Option DS)) (M:Own) (Q:List DS->Own->Prop):Prop:=∀(σ:St) (H:Hp) (QQ:List V->Hp->Prop),Rel K M ρ σ H->(∀vs H' xs M',OA K H' M'->SIs K H' M' xs vs->Step K M M' H H'->Q xs M'->QQ vs H')->t σ H QQ
def DP (K:Frg) (t:TO) (ρ:List (Option DS)) (M:Own) (Q:Option Int->Own->Prop):Prop:=∀(σ:St) (H:Hp) (QQ:Option Int->Hp->Prop),Rel K M ρ σ H->(∀b H' M',OA K H' M'->Step K M M' H H'->Q b M'->QQ b H')->t σ H QQ
structure EndsD where
 nx:List (Option DS)->Own->Prop
 rt:DS->Own->Prop
 bk:List (Option DS)->Own->Prop:=λ_ _=>False
 ct:List (Option DS)->Own->Prop:=λ_ _=>False
def DSt (K:Frg) (t:TS) (ρ:List (Option DS)) (M:Own) (D:EndsD):Prop:=∀(σ:St) (H:Hp) (E:Ends),Rel K M ρ σ H->(∀ρ' M' σ' H',Rel K M' ρ' σ' H'->Step K M M' H H'->D.nx ρ' M'->E.nx σ' H')->(∀v H' x M',OA K H' M'->SI K H' M' x v->Step K M M' H H'->D.rt x M'->E.rt v H') ->(∀ρ' M' σ' H',Rel K M' ρ' σ' H'->Step K M M' H H'->D.bk ρ' M'->E.bk σ' H')->(∀ρ' M' σ' H',Rel K M' ρ' σ' H'->Step K M M' H H'->D.ct ρ' M'->E.ct σ' H')->t E σ H
def D1 (K:Frg) (r:V->Hp->VK->Prop) (x:DS) (M:Own) (Q:DS->Own->Prop):Prop:=∀(H:Hp) (v:V) (QQ:VK),OA K H M->SI K H M x v->(∀w H' z M',OA K H' M'->SI K H' M' z w->Step K M M' H H'->Q z M'->QQ w H')->r v H QQ
def D2 (K:Frg) (r:R2) (x y:DS) (M:Own) (Q:DS->Own->Prop):Prop:=∀(H:Hp) (v u:V) (QQ:VK),OA K H M->SI K H M x v->SI K H M y u->(∀w H' z M',OA K H' M'->SI K H' M' z w->Step K M M' H H'->Q z M'->QQ w H')->r v u H QQ
def DR (K:Frg) (r:List V->Hp->VK->Prop) (xs:List DS) (M:Own) (Q:DS->Own->Prop):Prop:=∀(H:Hp) (vs:List V) (QQ:VK),OA K H M->SIs K H M xs vs->(∀w H' z M',OA K H' M'->SI K H' M' z w->Step K M M' H H'->Q z M'->QQ w H')->r vs H QQ
def DM (K:Frg) (r:V->List V->Hp->VK->Prop) (x:DS) (xs:List DS) (M:Own) (Q:DS->Own->Prop):Prop:=∀(H:Hp) (v:V) (vs:List V) (QQ:VK),OA K H M->SI K H M x v->SIs K H M xs vs->(∀w H' z M',OA K H' M'->SI K H' M' z w->Step K M M' H H'->Q z M'->QQ w H')->r v vs H QQ
def DSl (K:Frg) (r:V->Option Int->Option Int->Hp->VK->Prop) (x:DS) (lo hi:Option Int) (M:Own) (Q:DS->Own->Prop):Prop:=∀(H:Hp) (v:V) (QQ:VK),OA K H M->SI K H M x v->(∀w H' z M',OA K H' M'->SI K H' M' z w->Step K M M' H H'->Q z M'->QQ w H')->r v lo hi H QQ
def DTy (K:Frg) (T:String) (x:DS) (M:Own):Prop:=∀(H:Hp) (v:V),OA K H M->SI K H M x v->tyV K T v H
section
variable {K:Frg}{ρ:List (Option DS)}{M:Own}{Q:DS->Own->Prop}{QB:Bool->Own->Prop}{ta tb tc:TE}{tA eF:TT}{r r':R2}
theorem UZ {t:TE}{Q':DS->Own->Prop}(h:DE K t ρ M Q) (hq:∀x M',Q x M'->Q' x M'):DE K t ρ M Q':=λσ H QQ R k=>h σ H QQ R λv H' x M' a b c q=>k v H' x M' a b c (hq x M' q)
theorem YQ {i:Nat}{x:DS}(e:ρ[i]?=some (some x)) (h:Q x M):DE K (UD i) ρ M Q:=λσ H QQ R k=>by obtain⟨v,h1,h2⟩:=R.slot i x e;exact⟨v,h1,k v H x M R.own h2 Step.refl h⟩
theorem YR {i:Int}(h:Q (.d (.int i)) M):DE K (tC (.int i)) ρ M Q:=λσ H QQ R k=>k _ H (.d (.int i)) M R.own (by unfold SI DV;rfl) Step.refl h
theorem bM {i:Bool}(h:Q (.d (.bool i)) M):DE K (tC (.bl i)) ρ M Q:=λσ H QQ R k=>k _ H (.d (.bool i)) M R.own (by unfold SI DV;rfl) Step.refl h
theorem YS {i:Str}(h:Q (.d (.str i)) M):DE K (tC (.str i)) ρ M Q:=λσ H QQ R k=>k _ H (.d (.str i)) M R.own (by unfold SI DV;rfl) Step.refl h
theorem YT (h:Q (.d .none) M):DE K (tC .non) ρ M Q:=λσ H QQ R k=>k _ H (.d .none) M R.own (by unfold SI DV;rfl) Step.refl h
theorem bN {n:String}(h:Q (.ty n) M):DE K (tC (.ty n)) ρ M Q:=λσ H QQ R k=>k _ H (.ty n) M R.own rfl Step.refl h
theorem bO (h:DE K ta ρ M λx M1=>DE K tb ρ M1 λy M2=>D2 K r x y M2 Q):DE K (tOp r ta tb) ρ M Q:=λσ H QQ R k=>
 h σ H _ R λv H1 x M1 o1 s1 t1 h1=>h1 σ H1 _ (R.step o1 t1) λu H2 y M2 o2 s2 t2 h2=>h2 H2 v u QQ o2 (s1.step t2) s2 λw H3 z M3 o3 s3 t3 q=>k w H3 z M3 o3 s3 ((t1.trans t2).trans t3) q
theorem bP {r:V->Hp->VK->Prop}(h:DE K ta ρ M λx M1=>D1 K r x M1 Q):DE K (tUn r ta) ρ M Q:=λσ H QQ R k=>
 h σ H _ R λv H1 x M1 o1 s1 t1 h1=>h1 H1 v QQ o1 s1 λw H3 z M3 o3 s3 t3 q=>k w H3 z M3 o3 s3 (t1.trans t3) q
theorem V0 (h:DE K ta ρ M λx M1=>∃c,x = .d (.bool c)/\QB c M1):DT K (WN ta) ρ M QB:=λσ H QQ R k=>
 h σ H _ R λv H1 x M1 o1 s1 t1 h1=>by obtain⟨c,rfl,q⟩:=h1;unfold SI DV at s1;exact⟨c,s1,k c H1 M1 o1 t1 q⟩
theorem cX (h:DE K ta ρ M λx M1=>∃c,x = .d (.bool c)/\QB c M1):DT K (L2.tB ta) ρ M QB:=λσ H QQ R k=>
 h σ H _ R λv H1 x M1 o1 s1 t1 h1=>by obtain⟨c,rfl,q⟩:=h1;unfold SI DV at s1;exact⟨c,s1,k c H1 M1 o1 t1 q⟩
theorem YU (h:DT K tA ρ M λc M1=>if c=true then DT K eF ρ M1 QB else QB false M1):DT K (aG tA eF) ρ M QB:=λσ H QQ R k=>
 h σ H _ R λc H1 M1 o1 t1 h1=>by
   cases c with
   | false=>rw[if_neg nft] at h1 ⊢;exact k _ H1 M1 o1 t1 h1
   | true=>rw[if_pos rfl] at h1 ⊢;exact h1 σ H1 QQ (R.step o1 t1) λb H2 M2 o2 t2 q=>k b H2 M2 o2 (t1.trans t2) q
theorem bQ (h:DT K tA ρ M λc M1=>if c=true then QB true M1 else DT K eF ρ M1 QB):DT K (tOr tA eF) ρ M QB:=λσ H QQ R k=>
 h σ H _ R λc H1 M1 o1 t1 h1=>by
   cases c with
   | true=>rw[if_pos rfl] at h1 ⊢;exact k _ H1 M1 o1 t1 h1
   | false=>rw[if_neg nft] at h1 ⊢;exact h1 σ H1 QQ (R.step o1 t1) λb H2 M2 o2 t2 q=>k b H2 M2 o2 (t1.trans t2) q
theorem YV (h:DT K tA ρ M λc M1=>QB (!c) M1):DT K (aH tA) ρ M QB:=λσ H QQ R k=>h σ H _ R λc H1 M1 o1 t1 h1=>k _ H1 M1 o1 t1 h1
theorem YW (h:QB true M):DT K bI ρ M QB:=λσ H QQ R k=>k true H M R.own Step.refl h
theorem YX (h:DE K ta ρ M λx M1=>∃c,x = .d (.bool c)/\if c=true then DE K tb ρ M1 Q else Q (.d (.bool false)) M1):DE K (WI ta tb) ρ M Q:=λσ H QQ R k=>
 h σ H _ R λv H1 x M1 o1 s1 t1 h1=>by
   obtain⟨c,rfl,q⟩:=h1;unfold SI DV at s1;refine⟨c,s1,?_⟩;cases c with
   | false=>rw[if_neg nft] at q ⊢;exact k _ H1 _ M1 o1 (by unfold SI DV;rfl) t1 q
   | true=>rw[if_pos rfl] at q ⊢;exact q σ H1 QQ (R.step o1 t1) λw H2 z M2 o2 s2 t2 q=>k w H2 z M2 o2 s2 (t1.trans t2) q
theorem YY (h:DE K ta ρ M λx M1=>∃c,x = .d (.bool c)/\Q (.d (.bool (!c))) M1):DE K (WJ ta) ρ M Q:=λσ H QQ R k=>
 h σ H _ R λv H1 x M1 o1 s1 t1 h1=>by obtain⟨c,rfl,q⟩:=h1;unfold SI DV at s1;exact⟨c,s1,k _ H1 _ M1 o1 (by unfold SI DV;rfl) t1 q⟩
theorem bR (h:DT K tA ρ M λc M1=>if c=true then DE K ta ρ M1 Q else DE K tb ρ M1 Q):DE K (tIf tA ta tb) ρ M Q:=λσ H QQ R k=>
 h σ H _ R λc H1 M1 o1 t1 h1=>by
   cases c with
   | true=>rw[if_pos rfl] at h1 ⊢;exact h1 σ H1 QQ (R.step o1 t1) λw H2 z M2 o2 s2 t2 q=>k w H2 z M2 o2 s2 (t1.trans t2) q
   | false=>rw[if_neg nft] at h1 ⊢;exact h1 σ H1 QQ (R.step o1 t1) λw H2 z M2 o2 s2 t2 q=>k w H2 z M2 o2 s2 (t1.trans t2) q
variable {QL:List DS->Own->Prop}{tl:TA}
theorem YZ (h:QL [] M):DA K aW ρ M QL:=λσ H QQ R k=>k [] H [] M R.own rfl Step.refl h
theorem V1 (h:DE K ta ρ M λx M1=>DA K tl ρ M1 λxs M2=>QL (x::xs) M2):DA K (WO ta tl) ρ M QL:=λσ H QQ R k=>
 h σ H _ R λv H1 x M1 o1 s1 t1 h1=>h1 σ H1 _ (R.step o1 t1) λvs H2 xs M2 o2 s2 t2 q=>k (v::vs) H2 (x::xs) M2 o2 ⟨v,vs,rfl,s1.step t2,s2⟩ (t1.trans t2) q
def JI:List DS->Option (List PyData)
 | []=>some []
 | .d x::r=>match JI r with
   | some l=>some (x::l)
   | none=>none
 | .loc _::_=>none
 | .ty _::_=>none
 | .tl _ _::_=>none
theorem SIs.data {H:Hp}:∀{xs:List DS}{ds:List PyData}{vs:List V},JI xs=some ds->SIs K H M xs vs->DVs K H M.W ds vs
 | [],ds,vs,e,h=>by cases e;cases h;exact DVs.nil
 | .d x::r,ds,vs,e,⟨v,q,e2,h1,h2⟩=>by
   cases e3:JI r with
   | none=>rw[JI,e3] at e;cases e
   | some es=> rw[JI,e3] at e;cases e;subst e2;exact DVs.cons h1 (SIs.data e3 h2)
 | .loc _::_,ds,vs,e,_=>by cases e
 | .ty _::_,ds,vs,e,_=>by cases e
 | .tl _ _::_,ds,vs,e,_=>by cases e
theorem SIs.length {H:Hp}:∀{xs:List DS}{vs:List V},SIs K H M xs vs->vs.length=xs.length
 | [],vs,h=>by cases h;rfl
 | _::r,vs,⟨v,q,e2,h1,h2⟩=>by subst e2;simp[SIs.length h2]
theorem Z0 (h:DA K tl ρ M λxs M1=>∃ds,JI xs=some ds/\ds.length<=sizeLine/\Q (.d (.tuple ds)) M1):DE K (aX tl) ρ M Q:=λσ H QQ R k=>
 h σ H _ R λvs H1 xs M1 o1 s1 t1 h1=>by obtain⟨ds,e,hz,q⟩:=h1;have hd:=s1.data e;refine⟨by rw[hd.length];exact hz,λp hp=>?_⟩;have g:Grow K M1.W M1.W H1 (upd H1 p (.tup vs)):=BD _ hp;refine k _ _ (.d (.tuple ds)) M1 (o1.new hp) ?_ (t1.trans ⟨g⟩) q;unfold SI DV;exact⟨p,vs,rfl,.inl ⟨λw=>w (o1.none hp),.inl AN⟩,hd.grow g⟩
theorem BI (h:DA K tl ρ M λxs M1=>∃ds,JI xs=some ds/\ds.length<=sizeLine/\Q (.d (.list ds)) M1):DE K (Y4 tl) ρ M Q:=λσ H QQ R k=>
 h σ H _ R λvs H1 xs M1 o1 s1 t1 h1=>by obtain⟨ds,e,hz,q⟩:=h1;have hd:=s1.data e;refine⟨by rw[hd.length];exact hz,λp hp=>?_⟩;have g:Grow K M1.W M1.W H1 (upd H1 p (.lst vs)):=BD _ hp;refine k _ _ (.d (.list ds)) M1 (o1.new hp) ?_ (t1.trans ⟨g⟩) q;unfold SI DV;exact⟨p,vs,rfl,.inl ⟨λw=>w (o1.none hp),.inl AN⟩,hd.grow g⟩
theorem KW (h:DA K tl ρ M λxs M1=>∃ds,JI xs=some ds/\ds.length<=sizeLine/\∀p,M1 p=none->Q (.loc p) (M1.put p (.l ds))):DE K (Y4 tl) ρ M Q:=λσ H QQ R k=>
 h σ H _ R λvs H1 xs M1 o1 s1 t1 h1=>by obtain⟨ds,e,hz,q⟩:=h1;have hd:=s1.data e;refine⟨by rw[hd.length];exact hz,λp hp=>?_⟩;obtain⟨a,b⟩:=OY o1 hp hd;exact k _ _ (.loc p) _ a rfl (t1.trans b) (q p (o1.none hp))
theorem bS {r:List V->Hp->VK->Prop}(h:DA K tl ρ M λxs M1=>DR K r xs M1 Q):DE K (tCB r tl) ρ M Q:=λσ H QQ R k=>
 h σ H _ R λvs H1 xs M1 o1 s1 t1 h1=>h1 H1 vs QQ o1 s1 λw H2 z M2 o2 s2 t2 q=>k w H2 z M2 o2 s2 (t1.trans t2) q
structure FSp where
 pre:List DS->Own->Prop
 post:List DS->Own->DS->Own->Prop
def spD (K:Frg) (n:Nat) (S:FSp):Sp:=λvs H Q _=>∃xs M,xs.length=n/\OA K H M/\SIs K H M xs vs/\S.pre xs M/\∀x M' v H',S.post xs M x M'->Step K M M' H H'->OA K H' M'->SI K H' M' x v->Q v H'
theorem V2 {n:Nat}{S:FSp}:∀vs H Q E,spD K n S vs H Q E->vs.length=n:=λvs H Q E ⟨xs,M,hl,_,h,_⟩=>by rw[h.length,hl]
theorem V3 {n:Nat}{S:FSp}{E:XK}(h:DA K tl ρ M λxs M1=>xs.length=n/\S.pre xs M1/\∀x M',S.post xs M1 x M'->Q x M'):DE K (OQ (spD K n S) [] E tl) ρ M Q:=λσ H QQ R k=>
 h σ H _ R λvs H1 xs M1 o1 s1 t1 ⟨h0,h1,h2⟩=>by show spD K n S (vs++[]) H1 QQ E;rw[a8Z];exact⟨xs,M1,h0,o1,s1,h1,λx M' v H' p st oa si=>k v H' x M' oa si (t1.trans st) (h2 x M' p)⟩
theorem S4 {T:String}{r:V->List V->Hp->VK->Prop}(h:DE K ta ρ M λx M1=>DTy K T x M1/\DA K tl ρ M1 λxs M2=>DM K r x xs M2 Q):DE K (tBM K T r ta tl) ρ M Q:=λσ H QQ R k=>
 h σ H _ R λv H1 x M1 o1 s1 t1 ⟨h0,h1⟩=>⟨h0 H1 v o1 s1,h1 σ H1 _ (R.step o1 t1) λvs H2 xs M2 o2 s2 t2 h2=>h2 H2 v vs QQ o2 (s1.step t2) s2 λw H3 z M3 o3 s3 t3 q=>k w H3 z M3 o3 s3 ((t1.trans t2).trans t3) q⟩
theorem V4 {QP:Option Int->Own->Prop}(h:QP none M):DP K OS ρ M QP:=λσ H QQ R k=>k _ H M R.own Step.refl h
theorem V5 {QP:Option Int->Own->Prop}(h:DE K ta ρ M λx M1=>∃i,x = .d (.int i)/\QP (some i) M1):DP K (WP ta) ρ M QP:=λσ H QQ R k=>
 h σ H _ R λv H1 x M1 o1 s1 t1 h1=>by obtain⟨i,rfl,q⟩:=h1;unfold SI DV at s1;exact⟨i,s1,k _ H1 M1 o1 t1 q⟩
theorem bT {r:V->Option Int->Option Int->Hp->VK->Prop}{tl th:TO}(h:DE K ta ρ M λx M1=>DP K tl ρ M1 λlo M2=>DP K th ρ M2 λhi M3=>DSl K r x lo hi M3 Q):DE K (tSl r ta tl th) ρ M Q:=λσ H QQ R k=>
 h σ H _ R λv H1 x M1 o1 s1 t1 h1=>h1 σ H1 _ (R.step o1 t1) λlo H2 M2 o2 t2 h2=>h2 σ H2 _ (R.step o2 (t1.trans t2)) λhi H3 M3 o3 t3 h3=>h3 H3 v QQ o3 (s1.step (t2.trans t3)) λw H4 z M4 o4 s4 t4 q=>k w H4 z M4 o4 s4 (((t1.trans t2).trans t3).trans t4) q
variable {D:EndsD}{t u:TS}
theorem OZ (h:D.nx ρ M):DSt K WK ρ M D:=λσ H E R k1 _ _ _=>k1 ρ M σ H R Step.refl h
theorem S5 (h:DE K ta ρ M D.rt):DSt K (aJ ta) ρ M D:=λσ H E R _ k2 _ _=>h σ H E.rt R λv H' x M' a b c q=>k2 v H' x M' a b c q
theorem P0 (h:DE K ta ρ M λ_ M1=>D.nx ρ M1):DSt K (WL ta) ρ M D:=λσ H E R k1 _ _ _=>h σ H _ R λv H' x M' a b c q=>k1 ρ M' σ H' (R.step a c) c q
theorem S6 {i:Nat}(h:DE K ta ρ M λx M1=>D.nx (ρ.set i (some x)) M1):DSt K (UJ ta (JV i)) ρ M D:=λσ H E R k1 _ _ _=>
 h σ H _ R λv H' x M' a b c q=>k1 _ M' _ H' ((R.step a c).set b i) c q
theorem Z1 (h:DSt K t ρ M { D with nx:=λρ1 M1=>DSt K u ρ1 M1 D }):DSt K (aI t u) ρ M D:=λσ H E R k1 k2 k3 k4=>by refine h σ H { E with nx:=λσ' H'=>u E σ' H' } R (λρ1 M1 σ1 H1 R1 t1 q=>?_) k2 k3 k4;exact q σ1 H1 E R1 (λa b c d e f g=>k1 a b c d e (t1.trans f) g) (λa b c d e f g q=>k2 a b c d e f (t1.trans g) q) (λa b c d e f g=>k3 a b c d e (t1.trans f) g) (λa b c d e f g=>k4 a b c d e (t1.trans f) g)
theorem bU (h:DT K tA ρ M λc M1=>if c=true then DSt K t ρ M1 D else DSt K u ρ M1 D):DSt K (aK tA t u) ρ M D:=λσ H E R k1 k2 k3 k4=>
 h σ H _ R λc H1 M1 o1 t1 h1=>by
   have go:∀{w:TS},DSt K w ρ M1 D->w E σ H1:=λq=>q σ H1 E (R.step o1 t1) (λa b c d e f g=>k1 a b c d e (t1.trans f) g) (λa b c d e f g q=>k2 a b c d e f (t1.trans g) q) (λa b c d e f g=>k3 a b c d e (t1.trans f) g) (λa b c d e f g=>k4 a b c d e (t1.trans f) g);cases c with
   | true=>rw[if_pos rfl] at h1 ⊢;exact go h1
   | false=>rw[if_neg nft] at h1 ⊢;exact go h1
theorem QA {i:Nat}{a:Addr}{ds:List PyData}(e:ρ[i]?=some (some (.loc a))) (m:M a=some (.l ds)) (h:DSt K t (ρ.set i (some (.d (.list ds)))) (M.del a) D):DSt K t ρ M D:=λσ H E R k1 k2 k3 k4=>by
 have hs:(M.del a).Sub M:=λb o q=>by
   unfold Own.del at q;by_cases hb:b=a;. rw[if_pos hb] at q;cases q
   . rw[if_neg hb] at q;exact q
 have st:Step K M (M.del a) H H:=⟨B1 hs⟩
 obtain⟨v,e1,e2⟩:=R.slot i _ e;obtain⟨vs,q1,q2⟩:=R.own a _ m;have R1:Rel K (M.del a) ρ σ H:=R.step (R.own.sub hs) st;have R2:=R1.set (x:=.d (.list ds)) (v:=v) (by
   unfold SI DV;refine⟨a,vs,e2,.inl ⟨λw=>w (by unfold Own.del;rw[if_pos rfl]),.inl q1⟩,q2.grow (B1 hs)⟩) i;have e3:σ.set i (some v)=σ:=by
   apply List.ext_getElem?;intro j;rw[List.getElem?_set];by_cases dY:i=j
   . subst dY;rw[if_pos rfl,e1];split;. rfl
     . rename_i hl;rw[List.getElem?_eq_none (by lia)] at e1;cases e1
   . rw[if_neg dY]
 rw[e3] at R2;exact h σ H E R2 (λa b c d e f g=>k1 a b c d e (st.trans f) g) (λa b c d e f g q=>k2 a b c d e f (st.trans g) q) (λa b c d e f g=>k3 a b c d e (st.trans f) g) (λa b c d e f g=>k4 a b c d e (st.trans f) g)
end
end DL
namespace DL
open PySem PySem.Spec L2
section
variable {K:Frg}{ρ:List (Option DS)}{M:Own}{Q:DS->Own->Prop}{H:Hp}
theorem AX {i:Int}{v:V}(h:SI K H M (.d (.int i)) v):v = .int i:=by unfold SI DV at h;exact h
theorem WX {i:Bool}{v:V}(h:SI K H M (.d (.bool i)) v):v = .bl i:=by unfold SI DV at h;exact h
theorem BJ {i:Str}{v:V}(h:SI K H M (.d (.str i)) v):v = .str i:=by unfold SI DV at h;exact h
theorem Z2 {v:V}(h:SI K H M (.d .none) v):v = .non:=by unfold SI DV at h;exact h
theorem BL {i:Int}:SI K H M (.d (.int i)) (.int i):=by unfold SI DV;rfl
theorem AI {i:Bool}:SI K H M (.d (.bool i)) (.bl i):=by unfold SI DV;rfl
theorem DU {i:Str}:SI K H M (.d (.str i)) (.str i):=by unfold SI DV;rfl
theorem bV {g:Int->Int->Int}{i j:Int}(q:Q (.d (.int (g i j))) M):D2 K (rI0 λi j=>.int (g i j)) (.d (.int i)) (.d (.int j)) M Q:=λH v u QQ oa s1 s2 k=>by rw[AX s1,AX s2];exact⟨i,j,rfl,rfl,k _ H _ M oa BL Step.refl q⟩
theorem bW {g:Int->Int->Bool}{i j:Int}(q:Q (.d (.bool (g i j))) M):D2 K (rI0 λi j=>.bl (g i j)) (.d (.int i)) (.d (.int j)) M Q:=λH v u QQ oa s1 s2 k=>by rw[AX s1,AX s2];exact⟨i,j,rfl,rfl,k _ H _ M oa AI Step.refl q⟩
theorem bX {C:Int->Int->Prop}{g:Int->Int->Int}{i j:Int}(c:C i j) (q:Q (.d (.int (g i j))) M):D2 K (rI C λi j=>.int (g i j)) (.d (.int i)) (.d (.int j)) M Q:=λH v u QQ oa s1 s2 k=>by rw[AX s1,AX s2];exact⟨i,j,rfl,rfl,c,k _ H _ M oa BL Step.refl q⟩
theorem cY {g:Int->Int}{i:Int}(q:Q (.d (.int (g i))) M):D1 K (rU λi=>.int (g i)) (.d (.int i)) M Q:=λH v QQ oa s1 k=>by rw[AX s1];exact⟨i,rfl,k _ H _ M oa BL Step.refl q⟩
theorem V6 {i j:Str}(hz:i.length+j.length<=sizeLine) (q:Q (.d (.str (i++j))) M) :
   D2 K (λx y H Q=>∃i j,x = .str i/\y = .str j/\i.length+j.length<=sizeLine/\Q (.str (i++j)) H) (.d (.str i)) (.d (.str j)) M Q:=λH v u QQ oa s1 s2 k=>by rw[BJ s1,BJ s2];exact⟨i,j,rfl,rfl,hz,k _ H _ M oa DU Step.refl q⟩
theorem CB {neg:Bool}{a b:PyData}(ha:zH a=true) (hb:zH b=true) (q:Q (.d (.bool (if neg then !a0V a b else a0V a b))) M):D2 K (JH K neg) (.d a) (.d b) M Q:=λH v u QQ oa s1 s2 k=>
 ⟨M.W,a,b,s1,s2,ha,hb,k _ H _ M oa AI Step.refl q⟩
theorem ME (x:Str) (ys:List Str):inV (.str x) (ys.map V.str)=decide (x∈ys):=by
 unfold inV;rw[a2V,b0W,decide_eq_true_iff];constructor
 . rintro⟨y,hy,e⟩;obtain⟨z,hz,rfl⟩:=zL.mp hy;have:z=x:=by simpa [eqV] using e
   subst this;exact hz
 . intro h;exact⟨.str x,zL.mpr ⟨x,h,rfl⟩,by simp[eqV]⟩
theorem Z3 {neg:Bool}{x:Str}{ys:List Str}(q:Q (.d (.bool (if neg then !decide (x∈ys) else decide (x∈ys)))) M):D2 K (rIn K neg) (.d (.str x)) (.d (.list (ys.map .str))) M Q:=λH v u QQ oa s1 s2 k=>by rw[BJ s1];unfold SI DV at s2;obtain⟨a,vs,rfl,hl,hd⟩:=s2;have e:=IH hd;subst e;exact⟨a,_,rfl,.inl hl.sq,rfl,by simp[FK],k _ H (.d (.bool (if neg then !decide (x∈ys) else decide (x∈ys)))) M oa (by rw[ME];exact AI) Step.refl q⟩
theorem NU {W:Addr->Prop}{ds:List PyData}{vs:List V}{i:Int}{d:PyData}(h:DVs K H W ds vs) (e:atI ds i=some d):∃v,atI vs i=some v/\DV K H W d v:=by
 unfold atI at e ⊢;rw[h.length];cases hx:ixN ds.length i with
 | none=>rw[hx] at e;cases e
 | some j=>rw[hx] at e;simpa using h.get' (by simpa using e)
theorem Z4 {ds:List PyData}{i:Int}{d:PyData}(e:atI ds i=some d) (q:Q (.d d) M):D2 K (UQ K) (.d (.list ds)) (.d (.int i)) M Q:=λH v u QQ oa s1 s2 k=>by rw[AX s2];unfold SI DV at s1;obtain⟨a,vs,rfl,hl,hd⟩:=s1;obtain⟨w,h1,h2⟩:=NU hd e;exact⟨a,vs,i,w,rfl,rfl,hl.sq,h1,k _ H (.d d) M oa h2 Step.refl q⟩
theorem Z5 {ds:List PyData}{i:Int}{d:PyData}(e:atI ds i=some d) (q:Q (.d d) M):D2 K (YA K) (.d (.tuple ds)) (.d (.int i)) M Q:=λH v u QQ oa s1 s2 k=>by rw[AX s2];unfold SI DV at s1;obtain⟨a,vs,rfl,hl,hd⟩:=s1;obtain⟨w,h1,h2⟩:=NU hd e;exact⟨a,vs,i,w,rfl,rfl,hl.sq,h1,k _ H (.d d) M oa h2 Step.refl q⟩
theorem Z6 {a:Addr}{ds:List PyData}{i:Int}{d:PyData}(m:M a=some (.l ds)) (e:atI ds i=some d) (q:Q (.d d) M):D2 K (UQ K) (.loc a) (.d (.int i)) M Q:=λH v u QQ oa s1 s2 k=>by rw[AX s2];unfold SI at s1;subst s1;obtain⟨vs,h0,hd⟩:=oa a _ m;obtain⟨w,h1,h2⟩:=NU hd e;exact⟨a,vs,i,w,rfl,rfl,SqL.of h0,h1,k _ H (.d d) M oa h2 Step.refl q⟩
theorem Z7 {z:Str}{i:Int}{c:Nat}(hz:z.length<=sizeLine) (e:atI z.cps.toList i=some c) (q:Q (.d (.str ⟨#[c]⟩)) M):D2 K YB (.d (.str z)) (.d (.int i)) M Q:=λH v u QQ oa s1 s2 k=>by rw[AX s2,BJ s1];exact⟨z,i,c,rfl,rfl,hz,e,k _ H _ M oa DU Step.refl q⟩
theorem DJ {r r':R2}{x y:DS}(h:D2 K r x y M Q):D2 K (λx y H Q=>r x y H Q\/r' x y H Q) x y M Q:=λH v u QQ oa s1 s2 k=>.inl (h H v u QQ oa s1 s2 k)
theorem DK {r r':R2}{x y:DS}(h:D2 K r' x y M Q):D2 K (λx y H Q=>r x y H Q\/r' x y H Q) x y M Q:=λH v u QQ oa s1 s2 k=>.inr (h H v u QQ oa s1 s2 k)
theorem Z8 {as bs:List PyData}(hz:as.length+bs.length<=sizeLine) (q:Q (.d (.list (as++bs))) M):D2 K (λx y H Q=>∃a b xs ys,x = .ref a/\y = .ref b/\SqL K H a xs/\SqL K H b ys/\xs.length+ys.length<=sizeLine/\∀p,H p=none->Q (.ref p) (upd H p (.lst (xs++ys)))) (.d (.list as)) (.d (.list bs)) M Q:=λH v u QQ oa s1 s2 k=>by unfold SI DV at s1 s2;obtain⟨a,vs,rfl,hl,hd⟩:=s1;obtain⟨b,us,rfl,e9,hd2⟩:=s2;refine⟨a,b,vs,us,rfl,rfl,hl.sq,e9.sq,by rw[hd.length,hd2.length];exact hz,λp hp=>?_⟩;have g:Grow K M.W M.W H (upd H p (.lst (vs++us))):=BD _ hp;refine k _ _ (.d (.list (as++bs))) M (oa.new hp) ?_ ⟨g⟩ q;unfold SI DV;exact⟨p,_,rfl,.inl ⟨λw=>w (oa.none hp),.inl AN⟩,(hd.append hd2).grow g⟩
theorem V7 {ds:List PyData}(q:Q (.d (.int ds.length)) M):DR K (λxs H Q=>∃x n,xs=[x]/\Y2 K x H n/\Q (.int (n:Nat)) H) [.d (.list ds)] M Q:=λH vs QQ oa s k=>by obtain⟨v,r,rfl,h1,h2⟩:=s;cases h2;unfold SI DV at h1;obtain⟨a,vs,rfl,hl,hd⟩:=h1;exact⟨_,_,rfl,.inl ⟨vs,hl.sq,rfl⟩,k _ H (.d (.int ds.length)) M oa (by rw[hd.length];exact BL) Step.refl q⟩
theorem Z9 {bs:List Bool}(q:Q (.d (.bool (bs.all id))) M):DR K (λxs H Q=>∃(p:Addr) (bs:List Bool),xs=[.ref p]/\SqL K H p (bs.map V.bl)/\Q (.bl (bs.all id)) H) [.d (.list (bs.map .bool))] M Q:=λH vs QQ oa s k=>by obtain⟨v,r,rfl,h1,h2⟩:=s;cases h2;unfold SI DV at h1;obtain⟨a,vs,rfl,hl,hd⟩:=h1;rw[GP hd] at hl;exact⟨a,bs,rfl,hl.sq,k _ H _ M oa AI Step.refl q⟩
theorem ZA {bs:List Bool}(q:Q (.d (.bool (bs.any id))) M):DR K (λxs H Q=>∃(p:Addr) (bs:List Bool),xs=[.ref p]/\SqL K H p (bs.map V.bl)/\Q (.bl (bs.any id)) H) [.d (.list (bs.map .bool))] M Q:=λH vs QQ oa s k=>by obtain⟨v,r,rfl,h1,h2⟩:=s;cases h2;unfold SI DV at h1;obtain⟨a,vs,rfl,hl,hd⟩:=h1;rw[GP hd] at hl;exact⟨a,bs,rfl,hl.sq,k _ H _ M oa AI Step.refl q⟩
theorem V8 {z:Str}:DTy K "str" (.d (.str z)) M:=λH v _ s=>by rw[BJ s];exact rfl
theorem P1 {a:Addr}{ds:List PyData}(m:M a=some (.l ds)):DTy K "list" (.loc a) M:=λH v oa s=>by unfold SI at s;subst s;obtain⟨vs,h0,hd⟩:=oa a _ m;exact .inl ⟨rfl,vs,SqL.of h0⟩
theorem K5 {a:Addr}{ds:List PyData}{d:PyData}(m:M a=some (.l ds)) (hz:ds.length < sizeLine) (q:Q (.d .none) (M.put a (.l (ds++[d])))):DM K KN (.loc a) [.d d] M Q:=λH v vs QQ oa s1 s2 k=>by obtain⟨u,r,rfl,h1,h2⟩:=s2;cases h2;unfold SI at s1;subst s1;obtain⟨us,h0,hd⟩:=oa a _ m;obtain⟨x,y⟩:=GQ oa m (hd.append (DVs.cons h1 DVs.nil));exact⟨a,us,u,rfl,rfl,h0,by rw[hd.length];exact hz,k _ _ (.d .none) _ x (by unfold SI DV;rfl) y q⟩
theorem V9 {z:Str}{lo hi:Option Int}(hz:z.length<=sizeLine) (q:Q (.d (.str (a0J z lo hi))) M):DSl K YN (.d (.str z)) lo hi M Q:=λH v QQ oa s1 k=>by rw[BJ s1];exact⟨z,rfl,hz,k _ H _ M oa DU Step.refl q⟩
def BW (xs:List PyData) (lo hi:Option Int):List PyData:=(xs.drop (HT.sIx xs.length 0 lo)).take (HT.sIx xs.length xs.length hi - HT.sIx xs.length 0 lo)
end
end DL
namespace DL
open PySem PySem.Spec L2
structure WD (K:Frg) (J:It) (ds:List PyData) (H1:Hp) (M1:Own):Prop where
 go:∀(i:Nat) H' M',i < ds.length->OA K H' M'->Step K M1 M' H1 H'->J.go i H'
 stop:∀H' M',OA K H' M'->Step K M1 M' H1 H'->J.stop ds.length H'
 yld:∀(i:Nat) H' M' x H2,OA K H' M'->Step K M1 M' H1 H'->i < ds.length->J.yld i H' x H2->OA K H2 M'/\Step K M' M' H' H2/\∃d,ds[i]?=some d/\DV K H2 M'.W d x
def DI (K:Frg) (wi:TI) (ρ:List (Option DS)) (M:Own) (Q:List PyData->Own->Prop):Prop:=∀(σ:St) (H:Hp) (R:It->Hp->Prop),Rel K M ρ σ H->(∀J ds H1 M1,OA K H1 M1->Step K M M1 H H1->WD K J ds H1 M1->Q ds M1->R J H1)->wi σ H R
def DG (K:Frg) (g:TG) (d:PyData) (ρ:List (Option DS)) (M:Own) (P:List (Option DS)->Own->Prop):Prop:=∀(σ:St) (H:Hp) (v:V) (QQ:St->Hp->Prop),Rel K M ρ σ H->DV K H M.W d v->(∀ρ' M' σ' H',Rel K M' ρ' σ' H'->Step K M M' H H'->P ρ' M'->QQ σ' H')->g v σ H QQ
def S7 (g:TG) (T:List Nat):Prop:=∀(v:V) (σ:St) (H:Hp) (QQ:St->Hp->Prop),g v σ H (λσ2 H2=>(∀i,i∉T->σ2[i]?=σ[i]?)->QQ σ2 H2)->g v σ H QQ
section
variable {K:Frg}{ρ:List (Option DS)}{M:Own}{D:EndsD}{tl:TE}{tb:TS}{i:Nat}{QI:List PyData->Own->Prop}{g:TG}{wi:TI}
def BU (lo:Int) (n:Nat):List PyData:=(a3X n).map λ(i:Nat)=>.int (lo+i)
theorem F4 {ta:TA}(h:DA K ta ρ M λxs M1=>∃j:Int,xs=[.d (.int j)]/\-(2 ^ 62)<=j/\j < 2 ^ 62/\QI (BU 0 j.toNat) M1):DI K (WM ta) ρ M QI:=λσ H R Rl k=>
 h σ H _ Rl λvs H1 xs M1 o1 s1 t1 ⟨j,e,h1,h2,q⟩=>by
   subst e;obtain⟨v,r,rfl,h3,h4⟩:=s1;cases h4;rw[show v = .int j by unfold SI DV at h3;exact h3];have ac:(BU 0 j.toNat).length=j.toNat:=by simp[BU]
   refine⟨j,rfl,h1,h2,k _ (BU 0 j.toNat) H1 M1 o1 t1 ⟨λi H' M' hi oa st=>?_,λH' M' oa st=>?_,λi H' M' x H2 oa st hi y=>?_⟩ q⟩;. show i < j.toNat;rw[<-ac];exact hi
   . show j.toNat<=(BU 0 j.toNat).length;rw[ac];exact zR _
   . obtain⟨rfl,rfl⟩:=y;refine⟨oa,Step.refl,.int (0+i),?_,by unfold DV;rfl⟩;unfold BU;rw[zF];rw[ac] at hi;simp[hi]
theorem VA {d:PyData}{P:List (Option DS)->Own->Prop}(h:P (ρ.set i (some (.d d))) M):DG K (JV i) d ρ M P:=λσ H v QQ R dv k=>k _ M _ H (R.set (x:=.d d) dv i) Step.refl h
theorem CU (i:Nat):S7 (JV i) [i]:=λv σ H QQ h=>h λj hj=>by rw[List.getElem?_set_ne (by rintro rfl;exact hj (by simp))]
abbrev EndsD.turn (D:EndsD) (P:List (Option DS)->Own->Prop):EndsD:={ nx:=P,ct:=P,bk:=D.nx,rt:=D.rt }
theorem GR (h:DI K wi ρ M λds M1=>∃P:Nat->List (Option DS)->Own->Prop,P 0 ρ M1/\(∀k d ρ' M',ds[k]?=some d->P k ρ' M'->DG K g d ρ' M' λρ2 M2=>DSt K tb ρ2 M2 (D.turn (P (k+1))))/\∀ρ' M',P ds.length ρ' M'->D.nx ρ' M') :
   DSt K (aQ wi g tb) ρ M D:=λσ H E R k1 k2 k3 k4=>
 h σ H _ R λJ ds H1 M1 o1 t1 wd ⟨P,p0,pt,pe⟩=>by
   refine⟨λi m σ' H'=>m=ds.length - i/\i<=ds.length/\∃ρ' M',Rel K M' ρ' σ' H'/\Step K M1 M' H1 H'/\P i ρ' M',⟨_,rfl,xU _,ρ,M1,R.step o1 t1,Step.refl,p0⟩,?_⟩;rintro i m σ' H' ⟨rfl,hi,ρ',M',R',st,p⟩;by_cases bi:i < ds.length;. refine .inr ⟨wd.go i H' M' bi R'.own st,λσ2 H2=>∃ρ2 M2,Rel K M2 ρ2 σ2 H2/\Step K M1 M2 H1 H2/\P (i+1) ρ2 M2,λσ2 H2 ⟨ρ2,M2,a,b,c⟩=>⟨ds.length - (i+1),by omega,rfl,bi,ρ2,M2,a,b,c⟩,λx H2 y=>?_⟩;obtain⟨jT,e6,d,e1,e2⟩:=wd.yld i H' M' x H2 R'.own st bi y;refine pt i d ρ' M' e1 p σ' H2 x _ (R'.step jT e6) e2 λρ3 M3 σ3 H3 R3 eG b3=>?_;have s3:=(st.trans e6).trans eG;exact b3 σ3 H3 _ R3 (λr m s hh R4 f6 q=>⟨r,m,R4,s3.trans f6,q⟩) (λw hh x m a b c q=>k2 w hh x m a b (t1.trans (s3.trans c)) q) (λr m s hh R4 f6 q=>k1 r m s hh R4 (t1.trans (s3.trans f6)) q) (λr m s hh R4 f6 q=>⟨r,m,R4,s3.trans f6,q⟩)
   . have e:i=ds.length:=by omega
     subst e;exact .inl ⟨wd.stop H' M' R'.own st,k1 ρ' M' σ' H' R' (t1.trans st) (pe ρ' M' p)⟩
def MF (fr:List (Option Nat)) (ρ:List (Option DS)):List (Option DS):=fr.map λo=>o.bind λj=>(ρ[j]?).join
theorem K6 {fr:List (Option Nat)}{α:Type}{ρ:List (Option α)}{i:Nat}{x:α}(h:(fr.map λo=>o.bind λj=>(ρ[j]?).join)[i]?=some (some x)):∃j,fr[i]?=some (some j)/\ρ[j]?=some (some x):=by
 rw[zF] at h;cases hf:fr[i]? with
 | none=>rw[hf] at h;cases h
 | some o=>
   rw[hf] at h;cases o with
   | none=>cases h
   | some j=>
     refine⟨j,rfl,?_⟩;have e2:((ρ[j]?).join)=some x:=Option.some.inj h;cases hs:ρ[j]? with
     | none=>rw[hs] at e2;cases e2
     | some q=>rw[hs] at e2;cases q with
       | none=>cases e2
       | some v'=>cases e2;rfl
theorem Rel.capt {fr:List (Option Nat)}{σ:St}{H:Hp}(R:Rel K M ρ σ H):Rel K M (MF fr ρ) (L2.capt fr σ) H:=by refine⟨R.own,by unfold MF L2.capt;rw[zX,zX],λi x e=>?_⟩;obtain⟨j,e1,e2⟩:=K6 e;obtain⟨v,h1,h2⟩:=R.slot j x e2;refine⟨v,?_,h2⟩;unfold L2.capt;rw[zF,e1];simp[h1]
theorem VB {fr:List (Option Nat)}{tt:TT}{te:TE}{T:List Nat}{Q:DS->Own->Prop}(ho:S7 g T) (hT:∀i∈T,∀j,fr[i]?≠some (some j)) (h:DI K wi ρ M λds M1=>ds.length < sizeLine/\∀D,M1 D=none->∃P:Nat->List PyData->Own->Prop,P 0 [] (M1.put D (.l []))/\(∀k acc M',P k acc M'->M' D=some (.l acc)/\acc.length<=k) /\(∀k d acc M',ds[k]?=some d->P k acc M'->DG K g d (MF fr ρ) M' λρ2 M2=>DT K tt ρ2 M2 λc M3=>if c=true then DE K te ρ2 M3 λy M4=>∃r,y = .d r/\M4 D=some (.l acc)/\P (k+1) (acc++[r]) (M4.put D (.l (acc++[r]))) else P (k+1) acc M3) /\∀acc M',P ds.length acc M'->Q (.d (.list acc)) (M'.del D)) :
   DE K (OW fr wi g tt te) ρ M Q:=λσ H QQ R k=>
 h σ H _ R λJ ds H1 M1 o1 t1 wd ⟨hsz,hq⟩=>by
   intro A hA;obtain⟨P,p0,pa,pt,pe⟩:=hq A (o1.none hA);obtain⟨oA,sA⟩:=OY o1 hA (DVs.nil (K:=K) (H:=H1) (W:=M1.W));refine⟨λi m ys H2=>m=ds.length - i/\i<=ds.length/\H2 A=some (.lst ys)/\∃acc M',OA K H2 M'/\Step K M1 M' H1 H2/\P i acc M',⟨_,rfl,xU _,AN,[],_,oA,sA,p0⟩,?_⟩;rintro i m ys H2 ⟨rfl,hi,jU,acc,M',oa,st,p⟩;refine⟨jU,?_⟩;have ib:∀{N:Own},(N.del A).Sub N:=λ{N} b o q=>by
     unfold Own.del at q;by_cases hb:b=A;. rw[if_pos hb] at q;cases q
     . rw[if_neg hb] at q;exact q
   by_cases bi:i < ds.length
   . refine .inr ⟨wd.go i H2 M' bi oa st,λx H3 y=>?_⟩;obtain⟨jV,eG,d,e1,e2⟩:=wd.yld i H2 M' x H3 oa st bi y;have Rc:Rel K M' (MF fr ρ) (L2.capt fr σ) H3:=((R.step o1 t1).step jV (st.trans eG)).capt;refine ho _ _ _ _ (pt i d acc M' e1 p (L2.capt fr σ) H3 x _ Rc e2 λρ3 M3 σ3 H4 R3 f6 b3 hext=>⟨λi' v' iO=>?_,?_⟩);. obtain⟨j,f1,f2⟩:=K6 iO;rw[hext i' λhm=>hT i' hm j f1];exact iO
     . refine b3 σ3 H4 _ R3 λc H5 M5 o5 eI h5=>?_;have sx:=((st.trans eG).trans f6).trans eI;cases c with
       | false=> rw[if_neg nft] at h5 ⊢;obtain⟨hm,_⟩:=pa _ _ _ h5;obtain⟨vs,q1,q2⟩:=o5 A _ hm;exact⟨vs,ds.length - (i+1),by omega,rfl,bi,q1,acc,M5,o5,sx,h5⟩
       | true=> rw[if_pos rfl] at h5 ⊢;refine h5 σ3 H5 _ (R3.step o5 eI) λy H6 z M6 o6 s6 jW h6=>?_;obtain⟨r,rfl,hm,p'⟩:=h6;obtain⟨vs,q1,q2⟩:=o6 A _ hm;obtain⟨w1,w2⟩:=GQ o6 hm (q2.append (DVs.cons s6 DVs.nil));have ac:acc.length<=i:=(pa _ _ _ p).2;exact⟨vs,q1,by rw[q2.length];omega,ds.length - (i+1),by omega,rfl,bi,AN,_,_,w1,(sx.trans jW).trans w2,p'⟩
   . have e:i=ds.length:=by omega
     subst e;refine .inl ⟨wd.stop H2 M' oa st,?_⟩;obtain⟨hm,_⟩:=pa _ _ _ p;obtain⟨vs,q1,q2⟩:=oa A _ hm;have ci:Step K M' (M'.del A) H2 H2:=⟨B1 ib⟩
     refine k _ H2 (.d (.list acc)) (M'.del A) (oa.sub ib) ?_ ((t1.trans st).trans ci) (pe acc M' p);unfold SI DV;exact⟨A,vs,rfl,.inl ⟨λw=>w (by unfold Own.del;rw[if_pos rfl]),.inl q1⟩,q2.grow (B1 ib)⟩
theorem AU {fr:List (Option Nat)}{tt:TT}{te:TE}{T:List Nat}{Q:DS->Own->Prop}(ho:S7 g T) (hT:∀i∈T,∀j,fr[i]?≠some (some j)) (h:DI K wi ρ M λds M1=>ds.length < sizeLine/\∃(c:PyData->Bool) (f:PyData->PyData),(∀d∈ds,∀M',DG K g d (MF fr ρ) M' λρ2 M2=>M2=M'/\DT K tt ρ2 M2 λb M3=>M3=M'/\b=c d/\(c d=true->DE K te ρ2 M3 λy M4=>y = .d (f d)/\M4=M'))/\Q (.d (.list ((ds.filter c).map f))) M1) :
   DE K (OW fr wi g tt te) ρ M Q:=by
 refine VB ho hT λσ H R Rl k=>h σ H R Rl λJ ds H1 M1 o1 t1 wd q=>k J ds H1 M1 o1 t1 wd ?_;obtain⟨hsz,c,f,he,q⟩:=q;refine⟨hsz,λA hA=>⟨λk acc M'=>acc=((ds.take k).filter c).map f/\M'=M1.put A (.l acc),⟨by simp,rfl⟩,λk acc M' ⟨e1,e2⟩=>⟨by rw[e2];exact zU,?_⟩,λk d acc M' hd ⟨e1,e2⟩=>?_,λacc M' ⟨e1,e2⟩=>?_⟩⟩;. rw[e1,zX];exact zN (yL _ _) (by rw[a5K];omega)
 . have hm:d∈ds:=List.mem_of_getElem? hd;intro σ H v QQ R dv kk;refine he d hm M' σ H v QQ R dv λρ' M2 σ' H' R' st ⟨eM,q2⟩=>kk ρ' M2 σ' H' R' st λσ2 H2 QQ2 R2 k2=>?_;refine q2 σ2 H2 QQ2 R2 λb H3 M3 o3 eG ⟨jX,eb,q3⟩=>k2 b H3 M3 o3 eG ?_;have ts:(ds.take (k+1)).filter c=(ds.take k).filter c++(if c d then [d] else []):=take_succ_filter c ds k d hd;cases hb:c d with
   | false=> rw[hb] at eb;subst eb;refine L2.YK ⟨?_,by rw[jX,e2]⟩;rw[ts,hb,e1];simp
   | true=>
     rw[hb] at eb;subst eb;refine L2.YL ?_;refine UZ (q3 hb) λy M4 ⟨ey,e4⟩=>⟨f d,ey,by rw[e4,e2];exact zU,?_,by rw[e4,e2,yJ]⟩
     rw[ts,hb,e1];simp
 . rw[e2,yH hA,e1,List.take_length];exact q
end
def KY (N:List Str) (xs:List DS):List (Option DS):=xs.map some++a2W (N.length - xs.length) none
section
variable {P:Program}{w:World}{K:Frg}{mg:Str->Option Value}{base:Heap}
theorem SIs.get {M:Own}{H:Hp}:∀{xs:List DS}{vs:List V}{i:Nat}{x:DS},SIs K H M xs vs->xs[i]?=some x->∃v,vs[i]?=some v/\SI K H M x v
 | [],_,_,_,_,e=>by simp at e
 | d::ds,vs,i,x,⟨v,r,e',h1,h2⟩,e=>by
   subst e';cases i with
   | zero=>simp at e;subst e;exact⟨v,rfl,h1⟩
   | succ i=>simpa using SIs.get h2 (by simpa using e)
theorem QC {M:Own}{H:Hp}{N:List Str}{xs:List DS}{vs:List V}(oa:OA K H M) (h:SIs K H M xs vs):Rel K M (KY N xs) (L2.EE N vs) H:=by
 have hl:=h.length;refine⟨oa,by unfold KY L2.EE;simp[hl],λi x e=>?_⟩;unfold KY at e;by_cases hi:i < xs.length
 . rw[yR (by simpa using hi),zF] at e;cases q:xs[i]? with
   | none=>rw[q] at e;cases e
   | some y=> rw[q] at e;cases e;obtain⟨v,h1,h2⟩:=h.get q;refine⟨v,?_,h2⟩;unfold L2.EE;rw[yR (by rw[zX,hl];exact hi),zF,h1];rfl
 . rw[List.getElem?_append_right (by simpa using hi),List.getElem?_replicate] at e;split at e <;> cases e
theorem fnD {x qual:Str}{st:Stmt}{f:Addr}{fd:FuncData}{N ps:List Str}{k:Nat}{S:FSp}(F:Fun K x qual st f fd) (Sc:FnScope N ps (AC st)) (cj:∀(cdv:Value) (A:Around) (outer:List Env) (s:Shared) (H:Hp) (E:XK),Room k (A.deeper (PyProof.Rows.envOfC qual (AC st) s.heap.objs.size f cdv)) ->∃t,PSs (NO CX0 P w K mg base N qual (AC st) f cdv A outer s H E).nox (BN st) t/\∀xs M,xs.length=ps.length->S.pre xs M->DSt K t (KY N xs) M { nx:=λ_ M1=>∃M2:Own,M2.Sub M1/\S.post xs M (.d .none) M2,rt:=λy M1=>∃M2:Own,M2.Sub M1/\S.post xs M y M2 }) :
   FnOk P w K mg base CX0 (k+1) f fd ps (spD K ps.length S):=by
 refine F.ok Sc V2 λcdv A outer s H vs Q E hr h=>?_;obtain⟨t,ht,hq⟩:=cj cdv A outer s H E hr;obtain⟨xs,M,hl,oa,si,pre,post⟩:=h;refine⟨t,ht,hq xs M hl pre (L2.EE N vs) H _ (QC oa si) ?_ ?_ (λ_ _ _ _ _ _ z=>z.elim) (λ_ _ _ _ _ _ z=>z.elim)⟩;. rintro ρ' M1 σ' H' R st ⟨M2,hs,p⟩;exact post (.d .none) M2 .non H' p (st.trans ⟨B1 hs⟩) (R.own.sub hs) (by unfold SI DV;rfl)
 . rintro v H' y M1 o s1 st ⟨M2,hs,p⟩;exact post y M2 v H' p (st.trans ⟨B1 hs⟩) (o.sub hs) (s1.sub hs)
end
end DL
namespace L2
open PySem PySem.Spec PyProof.Rows
section
variable {X:Cx}{tg:Expr}
def MG (K:Frg):R2:=λx y H Q=>(rI0 λi j=>.int (i+j)) x y H Q\/((∃i j,x = .str i/\y = .str j/\i.length+j.length<=sizeLine/\Q (.str (i++j)) H)\/WV K x y H Q)
theorem VC:OpR X (binaryOp .Add) (MG X.K):=XW.or (NM.or UY)
def QD (K:Frg):R2:=λx y H Q=>UQ K x y H Q\/(YA K x y H Q\/YB x y H Q)
theorem ZB:IxR X (QD X.K):=UR.or (YC.or YD)
def ZC (K:Frg):V->Option Int->Option Int->Hp->VK->Prop:=λx lo hi H Q=>bA K x lo hi H Q\/YN x lo hi H Q
theorem ZD:SlR X (ZC X.K):=US.or YO
def bY:R2:=λx y H Q=>(rI0 λi j=>.bl (decide (i < j))) x y H Q\/∃i j,x = .str i/\y = .str j/\Q (.bl (decide (i.cps.toList < j.cps.toList))) H
theorem S8:OpR X (compareOp .Lt) bY:=aV.or PZ
def VD (K:Frg):R2:=λx y H Q=>(∃i j,x = .str i/\y = .str j/\Q (.bl (!(a5Z j i 0 j.length 1).isEmpty)) H)\/rIn K false x y H Q
theorem ZE:OpR X (compareOp .In) (VD X.K):=Q0.or Q6
def KZ (K:Frg):R2:=λx y H Q=>(∃i j,x = .str i/\y = .str j/\Q (.bl (!(!(a5Z j i 0 j.length 1).isEmpty))) H)\/rIn K true x y H Q
theorem QE:OpR X (compareOp .NotIn) (KZ X.K):=KI.or KL
def VE (K:Frg) (tl:TE):TI:=λσ H R=>tl σ H λx H1=>(∃a,x = .ref a/\(∃xs,SqL K H1 a xs)/\R (Itl K a) H1)\/(∃a,x = .ref a/\(∃xs,SqT K H1 a xs)/\R (Itt K a) H1)\/∃y,x = .str y/\R (Its y) H1
theorem ZF {l:Expr}{tl:TE}(hl:PE X l tl):PI X tg l (VE X.K tl):=by
 intro pins s σ H R I h;refine thn (hl pins s σ H _ I h) λv s1 ⟨x,H1,I1,r1,q1⟩=>?_;have fp:∀b∈[s1.heap.objs.size],JF X pins H1 b:=λb hb=>by
   have e:b=s1.heap.objs.size:=by simpa using hb
   subst e;exact I1.fpOk (zR _) (I1.hok.fresh (zR _))
 rcases q1 with ⟨a,e,⟨xs,hq⟩,q⟩ | ⟨a,e,⟨xs,hq⟩,q⟩ | ⟨y,e,q⟩
 . subst e;cases r1;obtain⟨aa,rv,p,hz⟩:=I1.list hq;refine wpAny_pyIter_list p.isList ?_;exact⟨s1.heap.objs.size,[s1.heap.objs.size],_,_,H1,rfl,I1.kept (t':=s1.toks) λb o e=>zW _ e,PV a _,⟨_,yZ _ rfl,rfl,rfl⟩,fp,q⟩
 . subst e;cases r1;obtain⟨aa,rv,p,hz⟩:=I1.tuple hq;refine wpAny_pyIter_tuple (show s1.heap.IsTuple a aa.toArray from p) ?_;exact⟨s1.heap.objs.size,[s1.heap.objs.size],_,_,H1,rfl,I1.kept (t':=s1.toks) λb o e=>zW _ e,NK a _,⟨_,yZ _ rfl,rfl,rfl⟩,fp,q⟩
 . subst e;obtain⟨t,rfl⟩:=r1;cases ha:y.cps.all (· < 128)
   . exact wpAny_pyIter_wide ha ⟨s1.heap.objs.size,[s1.heap.objs.size],_,_,H1,rfl,I1.kept (t':=s1.toks) λb o e=>zW _ e,
       MD s1.heap.objs.size "str_iterator" y t (by decide) (λA hA=>Walks.strWide hA _ y t) (λ_ _ _ _ _ st h=>wpAny_pyIter_striter_wide st h),⟨_,yZ _ rfl,rfl,rfl⟩,fp,q⟩
   . exact wpAny_pyIter_ascii ha ⟨s1.heap.objs.size,[s1.heap.objs.size],_,_,H1,rfl,I1.kept (t':=s1.toks) λb o e=>zW _ e,
       MD s1.heap.objs.size "str_ascii_iterator" y t (by decide) (λA hA=>Walks.strAscii hA _ y t) (λ_ _ _ _ _ st h=>wpAny_pyIter_striter_ascii st h),⟨_,yZ _ rfl,rfl,rfl⟩,fp,q⟩
end
def S9:NameKind->Bool | .free=>true | _=>false
def SA:NameKind->Bool | .cell=>true | _=>false
def P2:NameKind->Bool | .local=>true | _=>false
def SB (fe:Scope) (ON:List Str) (scope:Scope) (NC:List Str) (fr:List (Option Nat)):Bool:=(match scope.kind with | .function=>true | _=>false)&&scope.names.all (λy=>!SA y.2) &&
 scope.names.all (λy=>!P2 y.2||(match scope.names.lookup y.1 with | some .local=>true | _=>false)) &&
 scope.names.all (λy=>!S9 y.2||(match fe.names.lookup y.1 with | some .cell=>true | some .free=>true | _=>false)) &&
 fr.length==NC.length &&
 (a3X NC.length).all λi=>match fr[i]?,NC[i]? with
   | some (some j),some x=>ON[j]?==some x&&(match scope.names.lookup x with | some .free=>true | _=>false)&&(match fe.names.lookup x with | some .cell=>true | some .free=>true | _=>false)
   | _,_=>true
theorem CSc.of {X:Cx}{scope:Scope}{NC:List Str}{fr:List (Option Nat)}{fe:Scope}{ON:List Str}(h:SB fe ON scope NC fr=true) (e:X.env.scope=fe) (eN:X.N=ON):CSc X scope NC fr:=by
 subst e eN;unfold SB at h;simp only[a0W,b0V,List.mem_range,beq_iff_eq] at h;obtain⟨⟨⟨⟨⟨h1,h2⟩,h3⟩,h4⟩,h5⟩,h6⟩:=h;refine⟨?_,λy hy e=>?_,λy hy e=>?_,λy hy e=>?_,h5,λi j x e1 e2=>?_⟩;. cases hk:scope.kind <;> rw[hk] at h1 <;> simp at h1 ⊢
 . have:=h2 y hy;rw[e] at this;simp[SA] at this
 . have:=h3 y hy;rw[e] at this;simp only[P2,Bool.not_true,Bool.false_or] at this;cases hl:scope.names.lookup y.1 with
   | none=>rw[hl] at this;cases this
   | some k=>rw[hl] at this;cases k <;> first | rfl | cases this
 . have:=h4 y hy;rw[e] at this;simp only[S9,Bool.not_true,Bool.false_or] at this;cases hl:X.env.scope.names.lookup y.1 with
   | none=>rw[hl] at this;cases this
   | some k=>
     rw[hl] at this;cases k <;> first
       | exact .inl hl
       | exact .inr hl
       | cases this
 . have hi:i < NC.length:=(yU.mp e1).1;have:=h6 i hi;rw[e1,e2] at this;simp only[a0W,beq_iff_eq] at this;obtain⟨⟨q1,q2⟩,q3⟩:=this;refine⟨q1,?_,?_⟩
   . cases hl:scope.names.lookup x with
     | none=>rw[hl] at q2;cases q2
     | some k=>rw[hl] at q2;cases k <;> first | rfl | cases q2
   . cases hl:X.env.scope.names.lookup x with
     | none=>rw[hl] at q3;cases q3
     | some k=>
       rw[hl] at q3;cases k <;> first
         | exact⟨.inr (.inl hl),λz=>by have z':X.env.scope.names.lookup x=some .local:=z;rw[hl] at z';cases z'⟩
         | exact⟨.inr (.inr hl),λz=>by have z':X.env.scope.names.lookup x=some .local:=z;rw[hl] at z';cases z'⟩
         | cases q3
end L2
namespace DL
open PySem PySem.Spec L2
section
variable {K:Frg}{ρ:List (Option DS)}{M:Own}{Q:DS->Own->Prop}{H:Hp}{QI:List PyData->Own->Prop}{tl ta tb:TE}
theorem SD {i j:Int}(q:Q (.d (.int (i+j))) M):D2 K (MG K) (.d (.int i)) (.d (.int j)) M Q:=DJ (bV q)
theorem SE {i j:Str}(hz:i.length+j.length<=sizeLine) (q:Q (.d (.str (i++j))) M):D2 K (MG K) (.d (.str i)) (.d (.str j)) M Q:=DK (DJ (V6 hz q))
theorem SF {a b:List PyData}(hz:a.length+b.length<=sizeLine) (q:Q (.d (.list (a++b))) M):D2 K (MG K) (.d (.list a)) (.d (.list b)) M Q:=DK (DK (Z8 hz q))
theorem CV {ds:List PyData}{i:Int}{d:PyData}(e:atI ds i=some d) (q:Q (.d d) M):D2 K (QD K) (.d (.list ds)) (.d (.int i)) M Q:=DJ (Z4 e q)
theorem VF {a:Addr}{ds:List PyData}{i:Int}{d:PyData}(m:M a=some (.l ds)) (e:atI ds i=some d) (q:Q (.d d) M):D2 K (QD K) (.loc a) (.d (.int i)) M Q:=DJ (Z6 m e q)
theorem AM {ds:List PyData}{i:Int}{d:PyData}(e:atI ds i=some d) (q:Q (.d d) M):D2 K (QD K) (.d (.tuple ds)) (.d (.int i)) M Q:=DK (DJ (Z5 e q))
theorem L0 {z:Str}{i:Int}{c:Nat}(hz:z.length<=sizeLine) (e:atI z.cps.toList i=some c) (q:Q (.d (.str ⟨#[c]⟩)) M):D2 K (QD K) (.d (.str z)) (.d (.int i)) M Q:=DK (DK (Z7 hz e q))
theorem SG {z:Str}{lo hi:Option Int}(hz:z.length<=sizeLine) (q:Q (.d (.str (a0J z lo hi))) M):DSl K (ZC K) (.d (.str z)) lo hi M Q:=λH v QQ oa s1 k=>.inr (V9 hz q H v QQ oa s1 k)
theorem VG {i j:Int}(q:Q (.d (.bool (decide (i < j)))) M):D2 K bY (.d (.int i)) (.d (.int j)) M Q:=DJ (bW q)
theorem P3 {x:Str}{ys:List Str}(q:Q (.d (.bool (decide (x∈ys)))) M):D2 K (VD K) (.d (.str x)) (.d (.list (ys.map .str))) M Q:=DK (Z3 (neg:=false) q)
theorem CL (h:DE K tl ρ M λx M1=>∃ds,x = .d (.list ds)/\QI ds M1):DI K (VE K tl) ρ M QI:=λσ H R Rl k=>
 h σ H _ Rl λv H1 x M1 o1 s1 t1 ⟨ds,e,q⟩=>by
   subst e;unfold SI DV at s1;obtain⟨a,vs,rfl,hl,hd⟩:=s1;refine .inl ⟨a,rfl,⟨vs,hl.sq⟩,k _ ds H1 M1 o1 t1 ⟨λi H' M' hi oa st=>?_,λH' M' oa st=>?_,λi H' M' x H2 oa st hi y=>?_⟩ q⟩;. exact⟨vs,vs[i]'(by rw[hd.length];exact hi),(hl.grow st.grow).sq,by simp[hd.length,hi]⟩
   . exact⟨vs,(hl.grow st.grow).sq,by rw[hd.length];exact zR _⟩
   . obtain⟨rfl,y⟩:=y;obtain⟨d,e1,e2⟩:=hd.get (y vs (hl.grow st.grow).sq);exact⟨oa,Step.refl,d,e1,e2.grow st.grow⟩
theorem VH (h:DE K tl ρ M λx M1=>∃ds,x = .d (.tuple ds)/\QI ds M1):DI K (VE K tl) ρ M QI:=λσ H R Rl k=>
 h σ H _ Rl λv H1 x M1 o1 s1 t1 ⟨ds,e,q⟩=>by
   subst e;unfold SI DV at s1;obtain⟨a,vs,rfl,hl,hd⟩:=s1;refine .inr (.inl ⟨a,rfl,⟨vs,hl.sq⟩,k _ ds H1 M1 o1 t1 ⟨λi H' M' hi oa st=>?_,λH' M' oa st=>?_,λi H' M' x H2 oa st hi y=>?_⟩ q⟩);. exact⟨vs,vs[i]'(by rw[hd.length];exact hi),(hl.grow st.grow).sq,by simp[hd.length,hi]⟩
   . exact⟨vs,(hl.grow st.grow).sq,by rw[hd.length];exact zR _⟩
   . obtain⟨rfl,y⟩:=y;obtain⟨d,e1,e2⟩:=hd.get (y vs (hl.grow st.grow).sq);exact⟨oa,Step.refl,d,e1,e2.grow st.grow⟩
def tyD:PyData->String
 | .none => "NoneType"
 | .bool _ => "bool"
 | .int _ => "int"
 | .str _ => "str"
 | .list _ => "list"
 | .tuple _ => "tuple"
 | .dict _ => "dict"
end
end DL
namespace L2
open PySem PySem.Spec PyProof.Rows
section
variable {X:Cx}
def SH (K:Frg):List V->Hp->VK->Prop:=λxs H Q=>∃(x:V) (T:String) (d:PyData) (W:Addr->Prop) (b:Bool),xs=[x,.ty T]/\DV K H W d x/\PySem.W.kitOne K (.type (DL.tyD d)) (.type T)=some b/\Q (.bl b) H
theorem QF:B4 X (.builtin "isinstance") (SH X.K):=by
 intro pins s σ H xs us Q I r h;obtain⟨x,T,d,W,b,rfl,dv,e,q⟩:=h;obtain⟨u,u',rfl,ru,jY⟩:=OP r;cases jY;have fin:∀tk,EP X pins σ Q (.bool b) { s with toks:=tk }:=λtk=>⟨.bl b,H,I.tok _,rfl,q⟩
 cases d with
 | none=>unfold DV at dv;subst dv;exact DO I ru (TyOf.non) e fin
 | bool y=>unfold DV at dv;subst dv;exact DO I ru (TyOf.bl _) e fin
 | int i=>unfold DV at dv;subst dv;exact DO I ru (TyOf.int _) e fin
 | str y=>unfold DV at dv;subst dv;exact DO I ru (TyOf.str _) e fin
 | list ds=> unfold DV at dv;obtain⟨a,vs,rfl,hl,_⟩:=dv;cases ru;obtain⟨aa,rv,⟨o,n,h1,h2,_,_⟩,_⟩:=I.list hl.sq;exact a1J PySem.W.kitx_list I.kIn ⟨o,h1,h2⟩ e (λz=>nomatch z) fin
 | tuple ds=> unfold DV at dv;obtain⟨a,vs,rfl,hl,_⟩:=dv;cases ru;obtain⟨aa,rv,⟨o,h1,h2,_⟩,_⟩:=I.tuple hl.sq;exact a1J PySem.W.kitx_tuple I.kIn ⟨o,h1,h2⟩ e (λz=>nomatch z) fin
 | dict kvs=>
   unfold DV at dv;obtain⟨a,vs,rfl,_,hl,_⟩:=dv;rcases hl with hl | ⟨o',hl⟩
   . exact DO I ru (TyOf.dK hl) e fin
   . cases ru;obtain⟨_,_,f_,_,dd⟩:=EF I.hok (.inr ⟨o',hl⟩);exact a1J PySem.W.kitx_dict I.kIn dd.typeIs e (λz=>nomatch z) fin
end
end L2
namespace DL
open PySem PySem.Spec L2
section
variable {K:Frg}{ρ:List (Option DS)}{M:Own}{Q:DS->Own->Prop}{H:Hp}{ta tb:TE}
theorem SJ {d:PyData}{T:String}{b:Bool}(e:PySem.W.kitOne K (.type (tyD d)) (.type T)=some b) (q:Q (.d (.bool b)) M):DR K (SH K) [.d d,.ty T] M Q:=λH vs QQ oa s k=>by obtain⟨v,r,rfl,h1,v2,r2,rfl,h2,h3⟩:=s;cases h3;rw[show v2 = .ty T from h2];exact⟨v,T,d,M.W,b,rfl,h1,e,k _ H _ M oa AI Step.refl q⟩
theorem P4 (q:Q (.d (.dict [])) M):DE K RS ρ M Q:=λσ H QQ R k p hp=>by have g:Grow K M.W M.W H (upd H p (.dK [])):=BD _ hp;refine k _ _ (.d (.dict [])) M (R.own.new hp) ?_ ⟨g⟩ q;unfold SI DV;exact⟨p,[],rfl,λw=>w (R.own.none hp),.inl AN,by unfold DKV;rfl⟩
theorem SK {p:Addr}{ks:List (Key×V)}{kvs:List (PyData×PyData)}(oa:OA K H M) (h:H p=a9V) (hd:DKV K H M.W kvs ks) :
   OA K (upd H p (.dK ks)) (M.put p (.d kvs))/\Step K M (M.put p (.d kvs)) H (upd H p (.dK ks)):=by
 have hM:=oa.none h;have g:Grow K M.W (M.put p (.d kvs)).W H (upd H p (.dK ks)):=⟨λb u e _=>.inl (by rw[AO (B5 e h)];exact e),λb w=>by
   by_cases hb:b=p;. subst hb;exact .inr h
   . left;unfold Own.W at w ⊢;rw[yI hb] at w;exact w⟩
 refine⟨λa o e=>?_,⟨g⟩⟩;by_cases ha:a=p;. subst ha;rw[zU] at e;cases e;exact⟨ks,AN,hd.grow g⟩
 . rw[yI ha] at e;have q:=oa a o e;cases o <;> (obtain⟨vs,q1,q2⟩:=q;exact⟨vs,by rw[AO ha];exact q1,q2.grow g⟩)
theorem II {p:Addr}{ks:List (Key×V)}{kvs:List (PyData×PyData)}{o:MO}(oa:OA K H M) (h:M p=some o) (hd:DKV K H M.W kvs ks) :
   OA K (upd H p (.dK ks)) (M.put p (.d kvs))/\Step K M (M.put p (.d kvs)) H (upd H p (.dK ks)):=by
 have hw:∀b,(M.put p (.d kvs)).W b->M.W b:=λb w=>by
   unfold Own.W at w ⊢;by_cases hb:b=p;. subst hb;rw[h];simp
   . rw[yI hb] at w;exact w
 have g:Grow K M.W (M.put p (.d kvs)).W H (upd H p (.dK ks)):=⟨λb u e nw=>.inl (by
   rw[AO (by rintro rfl;exact nw (by unfold Own.W;rw[h];simp))];exact e),λb w=>.inl (hw b w)⟩
 refine⟨λa o e=>?_,⟨g⟩⟩;by_cases ha:a=p;. subst ha;rw[zU] at e;cases e;exact⟨ks,AN,hd.grow g⟩
 . rw[yI ha] at e;have q:=oa a o e;cases o <;> (obtain⟨vs,q1,q2⟩:=q;exact⟨vs,by rw[AO ha];exact q1,q2.grow g⟩)
end
structure Has (P:Program) (w:World) (K:Frg) (mg:Str->Option Value) (base:Heap) (x:Str) (k:Nat) (ps:List Str) (S:FSp):Prop where
 ex:∃f fd,FnOk P w K mg base CX0 k f fd ps (spD K ps.length S)/\mg x=some (.ref f)/\a5Q K (.ref f)=true/\Binds K fd ps []
theorem SL {X:Cx}{x:Str}{k:Nat}{ps:List Str}{S:FSp}{e:Expr}{es:List Expr}{t:TA}{p pos:Pos}(h:Has X.prog X.w X.K X.mg X.base x k ps S) (hr:Room k X.A) (hg:Gl X x) (ha:PA X (e::es) t) (eJ:(x==("__debug__":Str))=false:=by decide) (he:starEach (e::es) X.env=(false,eval e X.env)::starEach es X.env:=by rfl) (e7:(backTo pos (starEach es X.env)).any (·.1)=false:=by rfl) :
   PE X (.Call (.Name x p) (e::es) [] pos) (OQ (spD X.K ps.length S) [] E0 t):=by obtain⟨f,fd,F,hm,hk,hb⟩:=h.ex;exact UM F hr hg hm hk hb .nil bH ha eJ he e7
section
variable {X:Cx}{K:Frg}
theorem kIx (h:X.K=K):IxR X (QD K):=h▸ZB
theorem kIn (h:X.K=K):OpR X (compareOp .In) (VD K):=h▸ZE
theorem ZG (h:X.K=K):OpR X (compareOp .NotIn) (KZ K):=h▸QE
theorem kEq (h:X.K=K) (hu:X.A.units+64 < cLine):OpR X (compareOp .Eq) (JH K false):=h▸S2 hu
theorem kNe (h:X.K=K) (hu:X.A.units+64 < cLine):OpR X (compareOp .NotEq) (JH K true):=h▸S3 hu
def bZ (K:Frg):List V->Hp->VK->Prop:=λxs H Q=>∃x n,xs=[x]/\Y2 K x H n/\Q (.int (n:Nat)) H
def WY (K:Frg):List V->Hp->VK->Prop:=λxs H Q=>∃(p:Addr) (bs:List Bool),xs=[.ref p]/\SqL K H p (bs.map V.bl)/\Q (.bl (bs.all id)) H
def WZ (K:Frg):List V->Hp->VK->Prop:=λxs H Q=>∃(p:Addr) (bs:List Bool),xs=[.ref p]/\SqL K H p (bs.map V.bl)/\Q (.bl (bs.any id)) H
theorem cZ (h:X.K=K):B4 X (.builtin "len") (bZ K):=h▸RK
theorem d3 (h:X.K=K) (hc:X.calm=true):B4 X (.builtin "all") (WY K):=h▸RZ hc
theorem d4 (h:X.K=K) (hc:X.calm=true):B4 X (.builtin "any") (WZ K):=h▸S0 hc
theorem d5 (h:X.K=K):B4 X (.builtin "isinstance") (SH K):=h▸QF
theorem c3 {tg l:Expr}{tl:TE}(h:X.K=K) (hl:PE X l tl):PI X tg l (VE K tl):=h▸ZF hl
theorem c4 {P:Program}{w:World}{mg:Str->Option Value}{base:Heap}{x:Str}{k:Nat}{ps:List Str}{S:FSp}{e:Expr}{es:List Expr}{t:TA}{p pos:Pos}(hK:X.K=K) (hP:X.prog=P) (hw:X.w=w) (fW:X.mg=mg) (jZ:X.base=base) (h:Has P w K mg base x k ps S) (hr:Room k X.A) (hg:Gl X x) (ha:PA X (e::es) t) (eJ:(x==("__debug__":Str))=false:=by decide) (he:starEach (e::es) X.env=(false,eval e X.env)::starEach es X.env:=by rfl) (e7:(backTo pos (starEach es X.env)).any (·.1)=false:=by rfl) :
   PE X (.Call (.Name x p) (e::es) [] pos) (OQ (spD K ps.length S) [] E0 t):=by subst hK hP hw fW jZ;exact SL h hr hg ha eJ he e7
variable {o e:Expr}{es:List Expr}{to:TE}{t:TA}{name:Str}{apos ae:Pos}{T id:String}{r:V->List V->Hp->VK->Prop}
theorem kBm (h:X.K=K) (pa:PlainAttrs T) (slot:Slot T name id) (fK:typeOf (.builtin id)=pure (.type "method_descriptor")) (hm:MtR X id r) (ho:PE X o to) (ha:PA X (e::es) t) (dZ:attributeBase o name X.env (eval o X.env)=eval o X.env:=by rfl)
   (fv:((backTo ae (starEach (e::es) X.env)).all (λx=>!x.1)&&(backToKw ae (keywordEach [] X.env)).all (λx=>x.1.isSome)
     && decide ((e::es).length+([]:List Keyword).length+(if ([]:List Keyword).isEmpty then 0 else 1) < 30))=true:=by rfl)
   (ed:(apos.endLine==ae.line)=true:=by rfl) (hs:starEach (e::es) X.env=(false,eval e X.env)::starEach es X.env:=by rfl) (cx:(backTo ae (starEach es X.env)).any (·.1)=false:=by rfl) :
   PE X (.Call (.Attribute o name apos) (e::es) [] ae) (tBM K T r to t):=h▸bB pa slot fK hm ho ha dZ fv ed hs cx
end
section
variable {K:Frg}{M:Own}{Q:DS->Own->Prop}
theorem F5 {ds:List PyData}(q:Q (.d (.int ds.length)) M):DR K (bZ K) [.d (.list ds)] M Q:=V7 q
theorem NV {bs:List Bool}(q:Q (.d (.bool (bs.all id))) M):DR K (WY K) [.d (.list (bs.map .bool))] M Q:=Z9 q
theorem SM {bs:List Bool}(q:Q (.d (.bool (bs.any id))) M):DR K (WZ K) [.d (.list (bs.map .bool))] M Q:=ZA q
end
end DL
namespace L2
open PySem PySem.Spec PyProof.Rows
section
variable {X:Cx}
theorem X0:∀{aa:List Value}{ss:List Str},StrsAre aa ss->Vals (ss.map V.str) aa
 | _,_,.nil=>.nil
 | _,_,.cons y t r=>.cons ⟨t,rfl⟩ (X0 r)
end
end L2
namespace DL
open PySem PySem.Spec L2
section
variable {X:Cx}{K:Frg}
def P5 (K:Frg):List V->Hp->VK->Prop:=λxs H Q=>∃p ys,xs=[.ref p]/\(SqL K H p ys\/SqT K H p ys)/\∀l,H l=none->Q (.ref l) (upd H l (.lst ys))
theorem c5 (h:X.K=K):B4 X (.type "list") (P5 K):=h▸KM
end
section
variable {K:Frg}{M:Own}{Q:DS->Own->Prop}{ρ:List (Option DS)}{H:Hp}
theorem MH {ds:List PyData}(q:Q (.d (.list ds)) M):DR K (P5 K) [.d (.tuple ds)] M Q:=λH vs QQ oa s k=>by obtain⟨v,r,rfl,h1,h2⟩:=s;cases h2;unfold SI DV at h1;obtain⟨a,vs,rfl,hl,hd⟩:=h1;refine⟨a,vs,rfl,.inr hl.sq,λp hp=>?_⟩;have g:Grow K M.W M.W H (upd H p (.lst vs)):=BD _ hp;refine k _ _ (.d (.list ds)) M (oa.new hp) ?_ ⟨g⟩ q;unfold SI DV;exact⟨p,vs,rfl,.inl ⟨λw=>w (oa.none hp),.inl AN⟩,hd.grow g⟩
theorem HE {W:Addr->Prop}:∀{bs:List Str},DVs K H W (bs.map a0Z) (bs.map V.str)
 | []=>DVs.nil
 | b::bs=>DVs.cons (by unfold DV;rfl) HE
def L1:PyData->Bool | .none=>true | _=>false
theorem ZH {d:PyData}(q:Q (.d (.bool (L1 d))) M):D2 K (λx y H Q=>y = .non/\Q (.bl (decide (x = .non))) H) (.d d) (.d .none) M Q:=λH v u QQ oa s1 s2 k=>by
 refine⟨Z2 s2,k _ H (.d (.bool (L1 d))) M oa ?_ Step.refl q⟩;cases d <;> unfold SI DV at s1;. rw[s1];exact AI
 . rw[s1];exact AI
 . rw[s1];exact AI
 . rw[s1];exact AI
 . obtain⟨a,_,rfl,_⟩:=s1;exact AI
 . obtain⟨a,_,rfl,_⟩:=s1;exact AI
 . obtain⟨a,_,rfl,_⟩:=s1;exact AI
end
def DGs (K:Frg) (g:TGs) (ds:List PyData) (ρ:List (Option DS)) (M:Own) (P:List (Option DS)->Own->Prop):Prop:=∀(σ:St) (H:Hp) (vs:List V) (QQ:St->Hp->Prop),Rel K M ρ σ H->DVs K H M.W ds vs->(∀ρ' M' σ' H',Rel K M' ρ' σ' H'->Step K M M' H H'->P ρ' M'->QQ σ' H')->g vs σ H QQ
section
variable {K:Frg}{M:Own}{ρ:List (Option DS)}{P:List (Option DS)->Own->Prop}
theorem VI (h:P ρ M):DGs K aN [] ρ M P:=λσ H vs QQ R hd k=>by unfold DVs at hd;subst hd;exact⟨rfl,k ρ M σ H R Step.refl h⟩
theorem SN {i:Nat}{g:TGs}{d:PyData}{ds:List PyData}(h:DGs K g ds (ρ.set i (some (.d d))) M P):DGs K (RH (JV i) g) (d::ds) ρ M P:=λσ H vs QQ R hd k=>by unfold DVs at hd;obtain⟨v,r,rfl,h1,h2⟩:=hd;exact⟨v,r,rfl,h (σ.set i (some v)) H r QQ (R.set (x:=.d d) h1 i) h2 k⟩
end
end DL
namespace HT
open PySem PySem.Spec PyProof.Rows
section
variable {prog:Program}{w:World}{A:Around}{E:Value->Shared->Prop}{s:Shared}
theorem getItem_tuple_whole {t sl:Addr}{items:Array Value}{vl vu:Value}{lo hi:Option Int}{Q:Value->Shared->Prop}(ht:IsTup s.heap t items) (hs:s.heap.IsSliceOf sl vl vu .none) (pl:IsPart vl lo) (pu:IsPart vu hi) (hw:sIx items.size 0 lo=0/\sIx items.size items.size hi=items.size) (h:Q (.ref t) s):wpAny (model prog w) A (getItem (.ref t) (.ref sl)) Q E s:=by
 obtain⟨os,fu,g_,fJ⟩:=id hs;have gU:s.TypeIs (.ref sl) "slice" := ⟨os,fu,g_⟩
 unfold getItem;try with_reducible refine wpAny_holding ?_
 first | refine zZ (zY ?_) | skip
 refine zZ (wpAny_sequenceKey ht.typeIs (by decide) ?_);refine zZ (wpAny_callSpecial?_slot (name:=a0Q "__getitem__") ht.typeIs a3K (wpAny_call_entry a3K ht.typeIs entry_tuple_getitem ?_ (args_tuple_getitem _ _)));show wpAny _ _ (Builtin.Tuple.tupleItemsOf (.ref t) >>= _) _ _ s;refine zZ (tupleItemsOf_ ht ?_);refine zZ (wpAny_typeOf gU ?_);rw[if_pos (by decide)];refine zZ (DQ hs pl pu ?_);have gV:((((sIx items.size 0 lo:Nat):Int)==0&&(1:Int)==1&&(sIx items.size items.size hi - sIx items.size 0 lo)==items.size)=true):=by rw[hw.1,hw.2];simp
 show wpAny _ _ (if (((sIx items.size 0 lo:Nat):Int)==0&&(1:Int)==1&&(sIx items.size items.size hi - sIx items.size 0 lo)==items.size)=true then _ else _) _ _ s;rw[if_pos gV];refine zZ (m:=Builtin.Tuple.tupleIsExact _) (zZ (wpAny_typeOf ht.typeIs (zY ?_)));show wpAny _ _ (if true=true then _ else _) _ _ s;rw[if_pos rfl];first
   | exact zZ (wpAny_rule (zZ (zY ⟨_,rfl,zY h⟩)))
   | exact zZ (wpAny_rule (zY ⟨_,rfl,zY h⟩))
   | exact zZ (wpAny_rule (zZ (zY (zY ⟨_,rfl,zY h⟩))))
end
end HT
namespace L2
open PySem PySem.Spec PyProof.Rows
section
variable {X:Cx}
def X1 (K:Frg):V->Option Int->Option Int->Hp->VK->Prop:=λx lo hi H Q=>∃a xs,x = .ref a/\SqT K H a xs/\(HM xs lo hi=xs->Q (.ref a) H)/\∀p,H p=none->Q (.ref p) (upd H p (.tup (HM xs lo hi)))
theorem VJ:SlR X (X1 X.K):=by
 intro pins s σ H x v vl vu lo hi sl Q I rx hs pl pu h;obtain⟨a,xs,rfl,hx,q1,q2⟩:=h;cases rx;obtain⟨aa,r,ht,hz⟩:=I.tuple hx;have ac:aa.toArray.size=xs.length:=by rw[zJ];exact r.length.symm
 by_cases hw:HT.sIx xs.length 0 lo=0/\HT.sIx xs.length xs.length hi=xs.length;. refine⟨"tuple", _,PyProof.Rows.slot_tuple_getitem.lookup,ht.typeIs,?_⟩;refine HT.getItem_tuple_whole ht hs pl pu (by rw[ac];exact hw) ⟨.ref a,H,I,rfl,q1 ?_⟩;unfold HM;rw[hw.1,hw.2];simp
 . exact Y9 pins s σ H (.ref a) (.ref a) vl vu lo hi sl Q I rfl hs pl pu ⟨a,xs,rfl,hx,hw,q2⟩
def SO (K:Frg):R2:=λx y H Q=>∃a b xs ys,x = .ref a/\y = .ref b/\SqT K H a xs/\SqT K H b ys/\xs.length+ys.length<=sizeLine /\(xs=[]->Q (.ref b) H)/\(ys=[]->Q (.ref a) H)/\(∀p,H p=none->Q (.ref p) (upd H p (.tup (xs++ys))))
theorem SQ:OpR X (binaryOp .Add) (SO X.K):=by
 intro pins s σ H x y v u Q I rx ry h;obtain⟨t,b,xs,ys,rfl,rfl,hx,hy,hz,q0,q1,q2⟩:=h;cases rx;cases ry;obtain⟨aa,r,ht,_⟩:=I.tuple hx;obtain⟨bh,r2,hb,_⟩:=I.tuple hy;have e1:=r.length;have e2:=r2.length;obtain⟨⟨cls,dd,data,sl⟩,ho,hc,n,hd⟩:=id ht;obtain⟨⟨ia,fT,data2,fU⟩,cy,hc2,n2,hd2⟩:=id hb;dsimp only at hc hd hc2 hd2;subst hc hd hc2 hd2;have e:aa.toArray++bh.toArray=(aa++bh).toArray:=by simp
 by_cases hv:aa=[]
 . have kc:xs=[]:=by cases r with | nil=>rfl | cons _ _=>cases hv
   exact concat_meets ⟨_,ho,rfl⟩ ⟨_,cy,rfl⟩ noFill_tuple_add seq_tuple_add b0X a9K (a9Z _ _) (tuple_addW0 t b aa.toArray bh.toArray n n2 dd fT sl fU (by simp[hv])) ⟨ho,cy,⟨.ref b,H,I,rfl,q0 kc⟩⟩
 . by_cases hw:bh=[]
   . have ke:ys=[]:=by cases r2 with | nil=>rfl | cons _ _=>cases hw
     exact concat_meets ⟨_,ho,rfl⟩ ⟨_,cy,rfl⟩ noFill_tuple_add seq_tuple_add b0X a9K (a9Z _ _) (tuple_addW1 t b aa.toArray bh.toArray n n2 dd fT sl fU (by simpa using hv) (by simp[hw])) ⟨ho,cy,⟨.ref t,H,I,rfl,q1 ke⟩⟩
   . refine concat_meets ⟨_,ho,rfl⟩ ⟨_,cy,rfl⟩ noFill_tuple_add seq_tuple_add b0X a9K (a9Z _ _) (tuple_addW2 t b aa.toArray bh.toArray n n2 dd fT sl fU (by simpa using hv) (by simpa using hw) (by rw[zJ,zJ];lia)) ⟨ho,cy,?_⟩;rw[e];refine⟨.ref s.heap.objs.size,_,I.laid (t':=s.toks) (o:=.tup (xs++ys)) (λb ob q=>zW _ q) (zR _) ?_,rfl,q2 _ I.fresh⟩;exact⟨by rw[yY];exact hz,aa++bh,r.append r2,IsTup.new _ _⟩
end
end L2
namespace DL
open PySem PySem.Spec L2
section
variable {X:Cx}{K:Frg}
def MI (K:Frg):R2:=λx y H Q=>MG K x y H Q\/SO K x y H Q
theorem c6 (h:X.K=K):OpR X (binaryOp .Add) (MI K):=h▸VC.or SQ
def ZI (K:Frg):V->Option Int->Option Int->Hp->VK->Prop:=λx lo hi H Q=>ZC K x lo hi H Q\/X1 K x lo hi H Q
theorem d6 (h:X.K=K):SlR X (ZI K):=h▸ZD.or VJ
end
section
variable {K:Frg}{M:Own}{Q:DS->Own->Prop}
theorem SR {i j:Int}(q:Q (.d (.int (i+j))) M):D2 K (MI K) (.d (.int i)) (.d (.int j)) M Q:=DJ (SD q)
theorem IJ {i j:Str}(hz:i.length+j.length<=sizeLine) (q:Q (.d (.str (i++j))) M):D2 K (MI K) (.d (.str i)) (.d (.str j)) M Q:=DJ (SE hz q)
theorem SS {a b:List PyData}(hz:a.length+b.length<=sizeLine) (q:Q (.d (.list (a++b))) M):D2 K (MI K) (.d (.list a)) (.d (.list b)) M Q:=DJ (SF hz q)
theorem MJ {as bs:List PyData}(hz:as.length+bs.length<=sizeLine) (q:Q (.d (.tuple (as++bs))) M):D2 K (MI K) (.d (.tuple as)) (.d (.tuple bs)) M Q:=DK λH v u QQ oa s1 s2 k=>by
 have ff:=s1;have g9:=s2;unfold SI DV at s1 s2;obtain⟨a,vs,rfl,hl,hd⟩:=s1;obtain⟨b,us,rfl,e9,hd2⟩:=s2;refine⟨a,b,vs,us,rfl,rfl,hl.sq,e9.sq,by rw[hd.length,hd2.length];exact hz,λe=>?_,λe=>?_,λp hp=>?_⟩
 . have:as=[]:=by have:=hd.length;rw[e] at this;exact List.length_eq_zero_iff.mp this.symm
   subst this;exact k _ H (.d (.tuple ([]++bs))) M oa g9 Step.refl q
 . have:bs=[]:=by have:=hd2.length;rw[e] at this;exact List.length_eq_zero_iff.mp this.symm
   subst this;rw[a8Z] at q;exact k _ H (.d (.tuple as)) M oa ff Step.refl q
 . have g:Grow K M.W M.W H (upd H p (.tup (vs++us))):=BD _ hp;refine k _ _ (.d (.tuple (as++bs))) M (oa.new hp) ?_ ⟨g⟩ q;unfold SI DV;exact⟨p,_,rfl,.inl ⟨λw=>w (oa.none hp),.inl AN⟩,(hd.append hd2).grow g⟩
theorem G2 {z:Str}{lo hi:Option Int}(hz:z.length<=sizeLine) (q:Q (.d (.str (a0J z lo hi))) M):DSl K (ZI K) (.d (.str z)) lo hi M Q:=λH v QQ oa s1 k=>.inl (SG hz q H v QQ oa s1 k)
theorem AK {ds:List PyData}{lo hi:Option Int}(q:Q (.d (.tuple (BW ds lo hi))) M):DSl K (ZI K) (.d (.tuple ds)) lo hi M Q:=λH v QQ oa s1 k=>.inr (by
 have ff:=s1;unfold SI DV at s1;obtain⟨a,vs,rfl,hl,hd⟩:=s1;have key:DVs K H M.W (BW ds lo hi) (HM vs lo hi):=by unfold BW HM;rw[hd.length];exact(hd.drop _).take _
 refine⟨a,vs,rfl,hl.sq,λe=>?_,λp hp=>?_⟩;. refine k _ H (.d (.tuple (BW ds lo hi))) M oa ?_ Step.refl q;unfold SI DV;exact⟨a,vs,rfl,hl,by rw[<-e];rw[e] at key;rw[e];exact key⟩
 . have g:Grow K M.W M.W H (upd H p (.tup (HM vs lo hi))):=BD _ hp;refine k _ _ (.d (.tuple (BW ds lo hi))) M (oa.new hp) ?_ ⟨g⟩ q;unfold SI DV;exact⟨p,_,rfl,.inl ⟨λw=>w (oa.none hp),.inl AN⟩,key.grow g⟩)
end
end DL
namespace DL
open PySem PySem.Spec L2
def fn1 (pre:PyData->Prop) (f:PyData->PyData):FSp:=⟨λxs _=>∃d,xs=[.d d]/\pre d,λxs M y M'=>∀d,xs=[.d d]->y = .d (f d)/\M'=M⟩
theorem G3 {pre:PyData->Prop}{f:PyData->PyData}{d:PyData}{M:Own}{Q:DS->Own->Prop}(p:pre d) (q:Q (.d (f d)) M):[DS.d d].length=1/\(fn1 pre f).pre [.d d] M/\∀x M',(fn1 pre f).post [.d d] M x M'->Q x M':=⟨rfl,⟨d,rfl,p⟩,λx M' h=>by obtain⟨rfl,rfl⟩:=h d rfl;exact q⟩
def G4 (c:Nat):Bool:=decide (97<=c)&&decide (c<=122)
def CC (z:Str):Prop:=1<=z.cps.size/\z.cps.size<=8/\∀c∈z.cps.toList,G4 c=true
theorem p64:(2:Int) ^ 64=18446744073709551616:=by decide
theorem L3 {i j:Int}(h1 : -1000000000000000 < i) (h2:i < 1000000000000000):CMul i j:=by refine .inl ⟨?_,?_⟩ <;> rw[p64] <;> lia
theorem d7 {M:Own}{a:Addr}{ds:List PyData}{k:Int}{j:Nat}{F:Addr->List PyData->Nat->Prop}(m:M a=some (.l ds)) (e:ixN ds.length k=some j) (q:F a ds j) : ∃a' eR k' j',DS.loc a = .loc a'/\DS.d (.int k) = .d (.int k')/\M a'=some (.l eR)/\ixN eR.length k'=some j'/\F a' eR j':=⟨a,ds,k,j,rfl,rfl,m,e,q⟩
theorem d9 {xs:List DS}{ds:List PyData}{Q:List PyData->Prop}(e:JI xs=some ds) (h:ds.length<=sizeLine) (q:Q ds):∃ds,JI xs=some ds/\ds.length<=sizeLine/\Q ds:=⟨ds,e,h,q⟩
theorem SU (n len:Nat):a2Q none (some (n:Int)) 1 len=a3X (min n len):=by
 unfold a2Q sliceRange;have h1:¬((n:Int) < 0):=by lia
 have h2:max 0 (min (n:Int) (len:Int))=((min n len:Nat):Int):=by lia
 simp only[show(1:Int) > 0 by decide,if_true,h1,if_false,h2];have h3:(if (0:Int) < ((min n len:Nat):Int) then (((min n len:Nat):Int) - 0+1 - 1)/1 else 0).toNat=min n len:=by
   split;. rw[Int.ediv_one];lia
   . lia
 rw[h3];apply List.ext_getElem?;intro i;rw[zF];by_cases h:i < min n len;. simp[List.getElem?_range h]
 . simp[List.getElem?_eq_none (show(a3X (min n len)).length<=i by simp;lia)]
theorem QG (l:List Nat) (a:Array Nat) (m:Nat) (h:a.toList=l):(a3X m).filterMap (λi=>a[i]?)=l.take m:=by
 induction m with
 | zero=>simp
 | succ m ih=>
   rw[List.range_succ,List.filterMap_append,ih,List.take_add_one];have e:a[m]?=l[m]?:=by rw[<-h];simp
   simp only[a6Q,List.filterMap_nil,e];cases l[m]? <;> simp
theorem E5 (z:Str) (n:Nat):(a0J z none (some (n:Int))).cps.toList=z.cps.toList.take n:=by
 unfold a0J;rw[SU];have hl:z.length=z.cps.toList.length:=by simp[Str.length]
 split;. rename_i h;simp only[List.length_range,beq_self_eq_true,Bool.true_and,beq_iff_eq] at h;rw[a7J (by rw[<-hl];lia)]
 . show(List.filterMap _ _).toArray.toList=_;rw[QG z.cps.toList z.cps _ rfl,List.toList_toArray,hl,List.take_eq_take_iff];lia
theorem QH {z:Str}{n:Nat}{c:Nat}(h:c∈(a0J z none (some (n:Int))).cps.toList):c∈z.cps.toList:=by rw[E5] at h;exact List.mem_of_mem_take h
theorem AG (x y:Str):(x++y).cps.toList=x.cps.toList++y.cps.toList:=by show(x.cps++y.cps).toList=_;simp
theorem EN:(a0Q "abcdefghijklmnopqrstuvwxyz").length=26:=by decide +kernel
theorem flt (l:List PyData):l.filter (λ_=>true)=l:=List.filter_eq_self.mpr (by simp)
theorem SV:(a0Q "abcdefghijklmnopqrstuvwxyz").cps.size=26:=by decide +kernel
theorem K7 (z:Str) (l u:Option Int) {n:Nat}(h:z.length<=n):(a0J z l u).length<=n:=zN (Txt.slice_le z l u) h
theorem ZJ {c:Nat}(h:G4 c=true):c < 128:=by unfold G4 at h;simp at h;lia
theorem GS (s:Str):s.cps.size=s.cps.toList.length:=by simp
end DL
namespace DL
open PySem PySem.Spec L2
theorem F6 {d:PyData}(h1:d.canLay0=true) (h2:d.depth<=64):zH d=true:=by unfold zH;rw[h1,decide_eq_true h2];rfl
theorem ZK {ds:List PyData}(h:∀d∈ds,d.canLay0=true):a0K ds=true:=by
 induction ds with
 | nil=>rfl
 | cons d r ih=>rw[a0K,h d a1X,ih λx hx=>h x (yV _ hx)];rfl
theorem IK {z:Str}(h:CC z):PyData.strOk z=true:=by unfold PyData.strOk;rw[Array.all_eq_true'];intro c hc;have:=ZJ (h.2.2 c (by simpa using hc));simp;lia
theorem IL:∀c∈(a0Q "abcdefghijklmnopqrstuvwxyz").cps.toList,G4 c=true:=by decide +kernel
theorem NW:(a0Q "abcdefghijklmnopqrstuvwxyz").cps.toList.Nodup:=by decide +kernel
end DL
namespace DL
open PySem PySem.Spec L2
theorem sIx_nat (n d k:Nat):HT.sIx n d (some (k:Int))=min k n:=HT.sIx_nat n d k
theorem HW (xs:List PyData) (a b:Nat):BW xs (some (a:Int)) (some (b:Int))=(xs.take b).drop a:=by
 unfold BW;rw[sIx_nat,sIx_nat,List.drop_take];by_cases h:a<=xs.length;. rw[a7X h,List.take_eq_take_iff,a4Q];lia
 . rw[a3Z (show xs.length<=min a xs.length by lia),a3Z (show xs.length<=a by lia)];simp
def fn2 (pre:PyData->PyData->Prop) (f:PyData->PyData->PyData):FSp:=⟨λxs _=>∃a b,xs=[.d a,.d b]/\pre a b,λxs M y M'=>∀a b,xs=[.d a,.d b]->y = .d (f a b)/\M'=M⟩
theorem IM {pre:PyData->PyData->Prop}{f:PyData->PyData->PyData}{a b:PyData}{M:Own}{Q:DS->Own->Prop}(p:pre a b) (q:Q (.d (f a b)) M):[DS.d a,.d b].length=2/\(fn2 pre f).pre [.d a,.d b] M/\∀x M',(fn2 pre f).post [.d a,.d b] M x M'->Q x M':=⟨rfl,⟨a,b,rfl,p⟩,λx M' h=>by obtain⟨rfl,rfl⟩:=h a b rfl;exact q⟩
def BE:PyData->Str | .str z=>z | _=>⟨#[]⟩
abbrev Th:=Str×Int×Int
end DL
namespace DL
open PySem PySem.Spec L2
theorem MK {as bs:List Str}(h:as.map a0Z=bs.map a0Z):as=bs:=by have:=congrArg (List.map BE) h;rw[zD,zD] at this;simpa [show(BE∘a0Z)=id from rfl] using this
theorem SW {α:Type}{xs:List α}{v:Int}(h0:0<=v) (h1:v < xs.length):∃x,atI xs v=some x/\x∈xs:=by
 obtain⟨n,rfl⟩:∃n:Nat,v=(n:Int):=⟨v.toNat,by lia⟩
 have hn:n < xs.length:=by lia
 exact⟨xs[n],AF (zV hn),a2X hn⟩
theorem AY {K:Frg}{ρ:List (Option DS)}{M:Own}{D:EndsD}{te:TE}{g:TG}(h:DE K te ρ M λx M1=>∃d,x = .d d/\DG K g d ρ M1 D.nx):DSt K (UJ te g) ρ M D:=λσ H E R k1 _ _ _=>
 h σ H _ R λv H' x M' a b c q=>by obtain⟨d,rfl,q⟩:=q;exact q σ H' v _ (R.step a c) b λρ2 M2 σ2 H2 R2 e6 p=>k1 ρ2 M2 σ2 H2 R2 (c.trans e6) p
theorem SX {X:Cx}:MtR X "list.append" KN:=K0
end DL
namespace L2
open PySem PySem.Spec PyProof.Rows
def EntS (w:World):List DictEntry->List (Str×Str)->Prop
 | [],[]=>True
 | e::es,kv::r=>e.hash=hashStr w kv.1/\(∃t,e.key = .str kv.1 t)/\(∃t,e.val = .str kv.2 t)/\EntS w es r
 | _,_=>False
def GDict (w:World) (K:Frg) (a:Addr) (kvs:List (Str×Str)):Prop:=(a==sysModules)=false/\(kvs.map (·.1)).Nodup/\∃es ep,K.lookup a=some { cls:=.type "dict", data:=.dict es ep }/\EntS w es.toList kvs
theorem EntS.pairs {P:Program}{w:World}:∀{es:List DictEntry}{kvs:List (Str×Str)},EntS w es kvs->∃vs:List (Key×Value),Pairs (AL P w) es vs/\KV (kvs.map λkv=>((a1Z kv.1:Key),V.str kv.2)) vs/\vs.map (·.1)=kvs.map (λkv=>(a1Z kv.1:Key))/\∀e∈es,∃k,(AL P w).is k e.key=true/\e.hash=(AL P w).hash k
 | [],[],_=>⟨[],.nil,.nil,rfl,by simp⟩
 | e::es,kv::r,⟨h1,⟨t,h2⟩,⟨t',h3⟩,h4⟩=>by
   obtain⟨vs,a,b,c,d⟩:=EntS.pairs (P:=P) h4;have hk:(AL P w).is (a1Z kv.1) e.key=true:=by rw[h2];exact HB P w kv.1 t
   refine⟨(a1Z kv.1,e.val)::vs,.cons hk rfl a,.cons ⟨rfl,⟨t',h3⟩⟩ b,by rw[zI,zI,c],λx hx=>?_⟩;rcases yX.mp hx with rfl | hx;. exact⟨_,hk,h1⟩
   . exact d x hx
section
variable {X:Cx}{pins:List (Addr×Obj)}{σ:St}{H:Hp}{s:Shared}
theorem GDict.at {a:Addr}{kvs:List (Str×Str)}(g:GDict X.w X.K a kvs) (I:Inv X pins σ H s):∃vs,KV (kvs.map λkv=>((a1Z kv.1:Key),V.str kv.2)) vs/\s.heap.DictOf (AL X.prog X.w) a vs:=by
 obtain⟨_,nd,es,ep,hk,he⟩:=g;obtain⟨vs,p1,p2,p3,p4⟩:=he.pairs (P:=X.prog);refine⟨vs,p2,_,es,ep,I.kIn a _ hk,⟨rfl,rfl,rfl⟩,rfl,λe he=>p4 e (by simpa using he),p1,?_⟩;rw[p3];have:kvs.map (λkv=>(a1Z kv.1:Key))=(kvs.map (·.1)).map a1Z:=by rw[zD];rfl
 rw[this];unfold List.Nodup;rw[List.pairwise_map];exact nd.imp λ{a b} q e=>q (by injection e)
def X2 (kvs:List (Str×Str)) (ty:TE):TE:=λσ H Q=>ty σ H λy H1=>∃k:Str,y = .str k/\Q (((kvs.lookup k).map V.str).getD .non) H1
theorem ML (kvs:List (Str×Str)) (k:Str):EL (kvs.map λkv=>((a1Z kv.1:Key),V.str kv.2)) (a1Z k)=(kvs.lookup k).map V.str:=by
 induction kvs with
 | nil=>rfl
 | cons kv r ih=>
   obtain⟨a,b⟩:=kv;unfold EL at ih ⊢;rw[zI,a4W,a1K];by_cases h:a=k;. subst h;simp
   . have h1:decide ((a1Z a:Key)=a1Z k)=false:=decide_eq_false λe=>h (by injection e);have h2:(k==a)=false:=by simpa using λe=>h e.symm
     simp only[h1,h2];exact ih
theorem VL {x:Str}{p apos ae:Pos}{e:Expr}{ty:TE}{kvs:List (Str×Str)}(hg:Gl X x) (hm:∃a,X.mg x=some (.ref a)/\GDict X.w X.K a kvs) (he:PE X e ty) (m:M1 X (.Name x p) "get" apos e ae) (hd:(x==("__debug__":Str))=false:=by decide) :
   PE X (.Call (.Attribute (.Name x p) "get" apos) [e] [] ae) (X2 kvs ty):=by
 obtain⟨a,hm,g⟩:=hm;intro pins s σ H Q I h;refine wpAny_Call_method m.base m.few m.line PySem.F.plainAttrs_dict PySem.F.slot_dict_get PySem.F.type_dict_get (KF I hg hm ?_ hd);obtain⟨vs,rel,dd⟩:=g.at I;refine⟨dd.typeIs,λb q=>?_,?_⟩;. cases q;obtain⟨ob,_,_,h1,h2,_⟩:=dd;exact⟨ob,h1,h2.2.1⟩
 rw[m.trees];refine b0J rfl (Calls.evalArgs_plain (Calls.spliced_cons (thn (he pins s σ H _ I h) λiv s2 ⟨y,H2,I2,ry,k,ey,q2⟩=>Calls.spliced_nil ?_)));subst ey;obtain⟨f_,ic,e8⟩:=g.at I2;refine call_meetsIn PySem.F.slot_dict_get e8.typeIs PySem.F.entry_dict_get (PySem.F.args_dict_get_2 _ _) (meets_dict_get (AL X.prog X.w) a (K1 (k:=a1Z k) ry) g.1) ⟨_,e8.mapOf,?_⟩;refine⟨_,H2,I2.tok _,?_,q2⟩;have:=(ic.val (a1Z k)).getD (show RelV .non .none from rfl);rw[ML] at this;exact this
def ZL (K:Frg) (a:Addr) (ss:List Str):Prop:=∃(aa:Array Value) (n:Nat),K.lookup a=some { cls:=.type "tuple", data:=.seq aa n }/\aa.size<=sizeLine/\StrsAre aa.toList ss
end
end L2
namespace DL
open PySem PySem.Spec L2
section
variable {K:Frg}{ρ:List (Option DS)}{M:Own}{Q:DS->Own->Prop}{ty:TE}
def ZM:Option Str->PyData | some z=>.str z | none=>.none
theorem VM {kvs:List (Str×Str)}(h:DE K ty ρ M λy M1=>∃k,y = .d (.str k)/\Q (.d (ZM (kvs.lookup k))) M1):DE K (X2 kvs ty) ρ M Q:=λσ H QQ R k=>
 h σ H _ R λv H1 x M1 o1 s1 t1 h1=>by
   obtain⟨z,rfl,q⟩:=h1;refine⟨z,BJ s1,?_⟩;cases e:kvs.lookup z with
   | none=>rw[e] at q;exact k _ H1 (.d .none) M1 o1 (by unfold SI DV;rfl) t1 q
   | some y=>rw[e] at q;exact k _ H1 (.d (.str y)) M1 o1 DU t1 q
theorem VN {X:Cx}{x:Str}{a:Addr}{pos:Pos}(hg:Gl X x) (hm:X.mg x=some (.ref a)) (hd:(x==("__debug__":Str))=false:=by decide):PE X (.Name x pos) (tC (.ref a)):=UE hg hm rfl hd
theorem VO {a:Addr}{ss:List Str}(g:ZL K a ss) (q:Q (.d (.tuple (ss.map .str))) M):DE K (tC (.ref a)) ρ M Q:=λσ H QQ R k=>by obtain⟨aa,n,hk,hz,hs⟩:=g;refine k _ H (.d (.tuple (ss.map .str))) M R.own ?_ Step.refl q;unfold SI DV;exact⟨a,ss.map V.str,rfl,.inr ⟨_,aa,n,hk,rfl,rfl,hz,X0 hs⟩,HE⟩
theorem SY {neg:Bool}{x:Str}{ys:List Str}(q:Q (.d (.bool (if neg then !decide (x∈ys) else decide (x∈ys)))) M):D2 K (rIn K neg) (.d (.str x)) (.d (.tuple (ys.map .str))) M Q:=λH v u QQ oa s1 s2 k=>by rw[BJ s1];unfold SI DV at s2;obtain⟨a,vs,rfl,hl,hd⟩:=s2;have e:=IH hd;subst e;exact⟨a,_,rfl,.inr hl.sq,rfl,by simp[FK],k _ H (.d (.bool (if neg then !decide (x∈ys) else decide (x∈ys)))) M oa (by rw[ME];exact AI) Step.refl q⟩
theorem L4 {x:Str}{ys:List Str}(q:Q (.d (.bool (decide (x∈ys)))) M):D2 K (VD K) (.d (.str x)) (.d (.tuple (ys.map .str))) M Q:=DK (SY (neg:=false) q)
theorem SZ {x:Str}{ys:List Str}(q:Q (.d (.bool (!decide (x∈ys)))) M):D2 K (KZ K) (.d (.str x)) (.d (.tuple (ys.map .str))) M Q:=DK (SY (neg:=true) q)
end
end DL
namespace L2
open PySem PySem.Spec PyProof.Rows
section
variable {X:Cx}
def L5:V->List V->Hp->VK->Prop:=λv vs H Q=>∃x y,v = .str x/\vs=[.str y]/\Q (.bl (Txt.startswith x y)) H
theorem QJ:MtR X "str.startswith" L5:=by intro pins s σ H x xs v us Q I rx rv h;obtain⟨y,z,rfl,rfl,q⟩:=h;obtain⟨t,rfl⟩:=rx;obtain⟨u,rfl,t',rfl⟩:=FZ rv;exact SC.startswith ⟨.bl _,H,I,rfl,q⟩
def HQ (z:Str) (n:Int):Str:=if (n==1||z.length==0)=true then z else ⟨(a2W n.toNat z.cps).foldl (·++·) #[]⟩
def P6:R2:=λx y H Q=>(rI (λi j=>IntMulOk i j) λi j=>.int (i*j)) x y H Q\/∃z n,x = .str z/\y = .int n/\1<=n/\n<=8/\z.length<=1000/\Q (.str (HQ z n)) H
theorem MM (a:Array Nat):∀(n:Nat) (b:Array Nat),(List.foldl (λx1 x2=>x1++x2) b (a2W n a)).size=b.size+n*a.size
 | 0,b=>by simp
 | n+1,b=>by rw[a5V,List.foldl_cons,MM a n,Array.size_append,Nat.succ_mul];lia
theorem IN (a:Array Nat):∀(n:Nat) (b:Array Nat),(List.foldl (λx1 x2=>x1++x2) b (a2W n a)).toList=b.toList++(a2W n a.toList).flatten
 | 0,b=>by simp
 | n+1,b=>by rw[a5V,List.foldl_cons,IN a n,a5V];simp
theorem VP:OpR X (binaryOp .Mult) P6:=by
 intro pins s σ H x y v u Q I rx ry h;rcases h with h | ⟨z,n,rfl,rfl,h1,h2,h3,q⟩
 . exact(opI (C:=λi j=>IntMulOk i j) λ_ _ _ _ _ _ _ hc q=>mul_int q hc) pins s σ H x y v u Q I rx ry h
 . obtain⟨t,rfl⟩:=rx;obtain⟨t',rfl⟩:=ry;have hp:(2:Int) ^ 63=9223372036854775808:=by decide
   refine P.mul_str ?_ (λ_ _=>?_) (λ_ _=>?_) ?_;. rw[decide_eq_false (Int.not_lt.mpr (Int.le_trans (by decide) h1)),decide_eq_false (Int.not_le.mpr (Int.lt_of_le_of_lt h2 (by decide)))];rfl
   . rw[hp];have h5:(1000:Int)<=(9223372036854775808 - 1)/n:=Int.le_ediv_of_mul_le (Int.lt_of_lt_of_le (by decide) h1) (Int.le_trans (Int.mul_le_mul_of_nonneg_left h2 (by decide)) (by decide));exact λhc=>absurd (Int.lt_of_le_of_lt h5 hc) (Int.not_lt.mpr (Int.ofNat_le.mpr h3))
   . have hm:z.length*n.toNat<=1000*1000:=Nat.mul_le_mul h3 (by lia);unfold Builtin.Str.tooLong;rw[decide_eq_false];exact λhc=>absurd (zP hc hm) (by decide)
   . rw[if_neg (by lia)];have q':=q;unfold HQ at q';split;. rename_i e;rw[if_pos e] at q';exact⟨.str z,H,I,⟨_,rfl⟩,q'⟩
     . rename_i e;rw[if_neg e] at q';refine⟨?_,⟨.str _,H,I.tok _,⟨_,rfl⟩,q'⟩⟩;show(List.foldl (λx1 x2=>x1++x2) #[] (a2W n.toNat z.cps)).size<=sizeLine;rw[MM];have hm:(#[]:Array Nat).size+n.toNat*z.cps.size<=8*1000:=by rw[show(#[]:Array Nat).size=0 from rfl,Nat.zero_add];exact Nat.mul_le_mul (by lia) h3
       exact zN hm (by decide)
end
end L2
namespace DL
open PySem PySem.Spec L2
section
variable {X:Cx}{K:Frg}
theorem MN (_:X.K=K):MtR X "str.startswith" L5:=QJ
theorem VQ (_:X.K=K):OpR X (binaryOp .Mult) P6:=VP
def c7:List V->Hp->VK->Prop:=λxs H Q=>∃i j,xs=[.int i,.int j]/\Q (.int (if j > i then j else i)) H
def c8:List V->Hp->VK->Prop:=λxs H Q=>∃i j,xs=[.int i,.int j]/\Q (.int (if j < i then j else i)) H
def X3:List V->Hp->VK->Prop:=λxs H Q=>(∃i,xs=[.int i]/\Q (.int i) H)\/∃k,xs=[.bl k]/\Q (.int (if k then 1 else 0)) H
def P7:List V->Hp->VK->Prop:=λxs H Q=>∃i j,xs=[.int i,.int j]/\aT i j/\∀p,H p=none->Q (.ref p) (upd H p (.tup [.int (i/j),.int (i % j)]))
theorem dA (_:X.K=K) (hc:X.calm=true):B4 X (.builtin "max") c7:=Q1 hc
theorem dB (_:X.K=K) (hc:X.calm=true):B4 X (.builtin "min") c8:=Q2 hc
theorem dC (_:X.K=K):B4 X (.type "int") X3:=Q3
theorem VR (_:X.K=K):B4 X (.builtin "divmod") P7:=M0
end
section
variable {K:Frg}{ρ:List (Option DS)}{M:Own}{Q:DS->Own->Prop}
theorem QK {x y:Str}(q:Q (.d (.bool (Txt.startswith x y))) M):DM K L5 (.d (.str x)) [.d (.str y)] M Q:=λH v vs QQ oa s1 s2 k=>by obtain⟨u,r,rfl,h1,h2⟩:=s2;cases h2;rw[BJ s1,BJ h1];exact⟨x,y,rfl,rfl,k _ H _ M oa AI Step.refl q⟩
theorem NX {i j:Int}(c:IntMulOk i j) (q:Q (.d (.int (i*j))) M):D2 K P6 (.d (.int i)) (.d (.int j)) M Q:=λH v u QQ oa s1 s2 k=>by rw[AX s1,AX s2];exact .inl ⟨i,j,rfl,rfl,c,k _ H _ M oa BL Step.refl q⟩
theorem ZN {z:Str}{n:Int}(h1:1<=n) (h2:n<=8) (h3:z.length<=1000) (q:Q (.d (.str (HQ z n))) M):D2 K P6 (.d (.str z)) (.d (.int n)) M Q:=λH v u QQ oa s1 s2 k=>by rw[BJ s1,AX s2];exact .inr ⟨z,n,rfl,rfl,h1,h2,h3,k _ H _ M oa DU Step.refl q⟩
theorem ZO {i j:Int}(q:Q (.d (.int (if j > i then j else i))) M):DR K c7 [.d (.int i),.d (.int j)] M Q:=λH vs QQ oa s k=>by obtain⟨v,r,rfl,h1,v2,r2,rfl,h2,h3⟩:=s;cases h3;rw[AX h1,AX h2];exact⟨i,j,rfl,k _ H _ M oa BL Step.refl q⟩
theorem ZP {i j:Int}(q:Q (.d (.int (if j < i then j else i))) M):DR K c8 [.d (.int i),.d (.int j)] M Q:=λH vs QQ oa s k=>by obtain⟨v,r,rfl,h1,v2,r2,rfl,h2,h3⟩:=s;cases h3;rw[AX h1,AX h2];exact⟨i,j,rfl,k _ H _ M oa BL Step.refl q⟩
theorem VS {b:Bool}(q:Q (.d (.int (if b then 1 else 0))) M):DR K X3 [.d (.bool b)] M Q:=λH vs QQ oa s k=>by obtain⟨v,r,rfl,h1,h2⟩:=s;cases h2;rw[WX h1];exact .inr ⟨b,rfl,k _ H _ M oa BL Step.refl q⟩
theorem QM {i j:Int}(h0:0 < j) (hj:j < 1073741824) (q:Q (.d (.tuple [.int (i/j),.int (i % j)])) M):DR K P7 [.d (.int i),.d (.int j)] M Q:=λH vs QQ oa s k=>by obtain⟨v,r,rfl,h1,v2,r2,rfl,h2,h3⟩:=s;cases h3;rw[AX h1,AX h2];refine⟨i,j,rfl,⟨h0,hj⟩,λp hp=>?_⟩;have g:Grow K M.W M.W H (upd H p (.tup [.int (i/j),.int (i % j)])):=BD _ hp;refine k _ _ (.d (.tuple [.int (i/j),.int (i % j)])) M (oa.new hp) ?_ ⟨g⟩ q;unfold SI DV;exact⟨p,_,rfl,.inl ⟨λw=>w (oa.none hp),.inl AN⟩,DVs.cons (by unfold DV;rfl) (DVs.cons (by unfold DV;rfl) DVs.nil)⟩
theorem T0 {g:TGs}{to ti:TE}{d:PyData}{ds:List PyData}{P:List (Option DS)->Own->Prop} (h:DE K to ρ M λo M1=>DE K ti ρ M1 λi M2=>∃a xs k j,o = .loc a/\i = .d (.int k)/\M2 a=some (.l xs)/\ixN xs.length k=some j/\DGs K g ds ρ (M2.put a (.l (xs.set j d))) P) :
   DGs K (RH (aO to ti WQ) g) (d::ds) ρ M P:=λσ H vs QQ R hd kk=>by unfold DVs at hd;obtain⟨v,r,rfl,h1,h2⟩:=hd;refine⟨v,r,rfl,h σ H _ R λw H2 y M2 o2 s2 t2 h3=>h3 σ H2 _ (R.step o2 t2) λu H3 z M3 o3 s3 t3 h4=>?_⟩;obtain⟨a,xs,k,j,rfl,rfl,m,hj,q⟩:=h4;rw[AX s3];have e:=s2.step t3;unfold SI at e;subst e;obtain⟨vs,h0,fB⟩:=o3 a _ m;have iP:=t2.trans t3;obtain⟨p1,p2⟩:=GQ o3 m (fB.set j (DV.grow iP.grow h1));have st:=iP.trans p2;exact⟨a,vs,k,j,rfl,rfl,h0,by rw[fB.length];exact hj,q σ _ r _ (R.step p1 st) (DVs.grow st.grow h2) λρ' M' σ' H' R' cg p=>kk ρ' M' σ' H' R' (st.trans cg) p⟩
end
end DL
namespace L2
open PySem PySem.Spec PyProof.Rows PySem.W
theorem L6 {ns:List Int}(h:WData.layableAll [WData.list (ns.map WData.int)]=true):∀i∈ns,xL i<=2 ^ 20:=by
 have h1:WData.weightAll (ns.map WData.int)<=2 ^ 20:=by
   have h0:WData.layable (WData.list (ns.map WData.int))=true:=by unfold WData.layableAll at h;simpa using h
   unfold WData.layable at h0;rw[a0W] at h0;exact of_decide_eq_true h0.2
 intro i hi;refine zN ?_ h1;clear h h1;induction ns with
 | nil=>cases hi
 | cons n r ih=>
   rw[zI];show _<=WData.weight (.int n)+1+WData.weightAll (r.map WData.int);rcases yX.mp hi with rfl | hi;. have:WData.weight (.int i)=xL i:=rfl;lia
   . have:=ih hi;lia
theorem T1 {l:PySem.W.OpenLaw}{n k:Nat}{q:Program}{loose:List Str}{XP:(Str->Option Value)->Heap->Prop}{YP:World->Heap->Prop}{d:DefRec}{K:Params->Frg}{CX:World->CXT}{sp:World->Sp}{x:Str} (hn:l.most=some n) (kf:n<=sizeLine) (ie:d.params.defaults=[]) (hr:Room k callerA) (hY:∀(w:World) (h:Heap),YP w h->(K w.params).In h) (F:∀(w:World) (mg:Str->Option Value) (fa:Addr) (h:Heap),(K w.params).In h->h.Ns mainGlobals mg->mg d.name=some (.ref fa) ->∃fd:FuncData,(∀(s:Shared) (u:Value),BindsTo s fd ⟨[u],[]⟩ [(x,u)]) /\∀base:Heap,(K w.params).In base->base.Ns mainGlobals mg->FnOk l.prog w (K w.params) mg base (CX w) k fa fd [x] (sp w)) (eZ:∀(w:World) (H:Hp) (a:Addr) (ns:List Int),ns.length<=n->(∀i∈ns,xL i<=2 ^ 20)->YI H->SqL (K w.params) H a (ns.map V.int)->sp w [.ref a] H (λv _=>v = .bl true) λ_ _ _=>False) (gX:∀(w:World) (H:Hp) (s:Shared) (e:Value) (s':Shared),CX w [] H s (λ_ _ _=>False) e s'->False) :
   PySem.W.WalkO q loose XP YP l.row.toRowW d [] (λf vs=>PySem.call f vs):=by
 intro w s₀ s₁ mg mb G Y fa o pm cd doc dV kV ho hd dX hD fW hg args vals as eL ig kE fw kF;have e1:dV = .none:=Dflts.none hD ie;subst e1;have e2:kV = .none:=Dflts.noKw hD;subst e2;obtain⟨a,vs,ns,rfl,rfl,ii,fX,ac⟩:=Att.script_of hn eL fw;have fY:=L6 ig;refine enter_call (codeAny_mono (R:=λr s'=>r = .ok (.ret (.bool true))/\OldK s₁.heap s'.heap/\s'.os=s₁.os/\AllBare s'.gens) ?_ λr s' hq=>?_);. have KX:=hY w _ Y;obtain⟨fd,hb,hF⟩:=F w mg fa _ KX G.T.g fW;exact RW KX G.T.g G.T.b G.T.builtins G.T.nolimit hg ii fX (zN ac kf) hr hF hb (λH hO hS=>eZ w H a ns ac fY hO hS) λH e s'=>gX w H s₁ e s'
 . have h1:=hq.1;subst h1;exact⟨.inl ⟨.bool true,.bool true,[],rfl,λ_=>rfl,.bool true,Att.post_true l _,λ_=>⟨List.Pairwise.nil,λ_ hm=>(nomatch hm)⟩⟩,hq.2.1,hq.2.2.1,hq.2.2.2⟩
end L2
namespace DL
open PySem PySem.Spec L2
theorem IP (i m:Nat) (a:Array Nat):((a3X m).map (i+·)).filterMap (λj=>a[j]?)=(a.toList.drop i).take m:=by
 induction m with
 | zero=>simp
 | succ m ih=>
   rw[List.range_succ,xJ,List.filterMap_append,ih,List.take_add_one];have e:a[i+m]?=(a.toList.drop i)[m]?:=by rw[List.getElem?_drop];simp
   simp only[zI,List.map_nil,a6Q,List.filterMap_nil,e];cases (a.toList.drop i)[m]? <;> simp
theorem NY (n len:Nat):max 0 (min (n:Int) (len:Int))=((min n len:Nat):Int):=by
 rcases Nat.le_total n len with h | h;. rw[a7X h,Int.min_eq_left (Int.ofNat_le.mpr h),Int.max_eq_right (a7Z _)]
 . rw[b1X h,Int.min_eq_right (Int.ofNat_le.mpr h),Int.max_eq_right (a7Z _)]
theorem T2 (a b:Nat):(if (a:Int) < (b:Int) then ((b:Int) - (a:Int)+1 - 1)/1 else 0).toNat=b - a:=by
 split;. rw[Int.ediv_one];lia
 . lia
theorem T3 (n len:Nat):a2Q (some (n:Int)) none 1 len=(a3X (len - min n len)).map (min n len+·):=by unfold a2Q sliceRange;have h1:¬((n:Int) < 0):=Int.not_lt.mpr (a7Z n);have h2:=NY n len;simp only[show(1:Int) > 0 by decide,if_true,h1,if_false,h2];have h3:(if ((min n len:Nat):Int) < (len:Int) then ((len:Int) - ((min n len:Nat):Int)+1 - 1)/1 else 0).toNat=len - min n len:=T2 _ _;rw[h3];apply yN;intro i hi;lia
theorem VT (n k len:Nat):a2Q (some (n:Int)) (some (k:Int)) 1 len=(a3X (min k len - min n len)).map (min n len+·):=by unfold a2Q sliceRange;have h1:¬((n:Int) < 0):=Int.not_lt.mpr (a7Z n);have gA:¬((k:Int) < 0):=Int.not_lt.mpr (a7Z k);have h2:=NY n len;have kg:=NY k len;simp only[show(1:Int) > 0 by decide,if_true,h1,gA,if_false,h2,kg];have h3:(if ((min n len:Nat):Int) < ((min k len:Nat):Int) then (((min k len:Nat):Int) - ((min n len:Nat):Int)+1 - 1)/1 else 0).toNat=min k len - min n len:=T2 _ _;rw[h3];apply yN;intro i hi;lia
theorem E6 (z:Str) (n:Nat):(a0J z (some (n:Int)) none).cps.toList=z.cps.toList.drop n:=by
 unfold a0J;rw[T3];have hl:z.length=z.cps.toList.length:=by simp[Str.length]
 split
 . rename_i h;rw[a0W] at h;have h:=eq_of_beq h.2;rw[zX,List.length_range] at h;have h0:n=0\/z.cps.toList.length=0:=by rw[hl] at h;lia
   rcases h0 with rfl | h0;. simp
   . rw[List.length_eq_zero_iff.mp h0];simp
 . show(List.filterMap _ _).toArray.toList=_;rw[IP,List.toList_toArray,hl];by_cases h:n<=z.cps.toList.length;. rw[a7X h,a7J (by rw[a4Q];exact zR _)]
   . rw[b1X (by lia),a3Z (zR _),a3Z (by lia)];simp
theorem QN (z:Str) (n k:Nat):(a0J z (some (n:Int)) (some (k:Int))).cps.toList=(z.cps.toList.take k).drop n:=by
 unfold a0J;rw[VT];have hl:z.length=z.cps.toList.length:=by simp[Str.length]
 have key:(z.cps.toList.drop (min n z.length)).take (min k z.length - min n z.length)=(z.cps.toList.take k).drop n:=by
   rw[hl,List.drop_take];by_cases h:n<=z.cps.toList.length
   . rw[a7X h,List.take_eq_take_iff,a4Q];rcases Nat.le_total k z.cps.toList.length with h' | h';. rw[a7X h']
     . rw[b1X h',Nat.min_self,b1X (Nat.sub_le_sub_right h' n)]
   . rw[a3Z (show z.cps.toList.length<=min n z.cps.toList.length by lia),a3Z (show z.cps.toList.length<=n by lia)];simp
 split
 . rename_i h;rw[a0W] at h;have h:=eq_of_beq h.2;rw[zX,List.length_range] at h;rw[<-key];have h5:=Nat.min_le_right k z.length;have h0:min n z.length=0\/z.cps.toList.length=0:=by rw[<-hl];revert h h5;generalize min k z.length=a;generalize min n z.length=b;lia
   rcases h0 with h0 | h0
   . have h6:z.cps.toList.length<=min k z.length - 0:=by rw[<-hl];rw[h0] at h;exact Nat.le_of_eq h.symm
     rw[h0,List.drop_zero,a7J h6]
   . rw[List.length_eq_zero_iff.mp h0];simp
 . show(List.filterMap _ _).toArray.toList=_;rw[IP,List.toList_toArray,key]
theorem NZ {i N:Nat}(h:i < N) (hN:N<=26):i/8 < 26:=zQ (Nat.div_le_self i 8) (zP h hN)
theorem FV (k:Nat):(1:Int)<=1+(k:Int) % 8/\1+(k:Int) % 8<=8/\1<=(1+(k:Int) % 8).toNat/\(1+(k:Int) % 8).toNat<=8:=by have e:(k:Int) % 8=((k % 8:Nat):Int):=rfl;rw[e];have:=Nat.mod_lt k (show 8 > 0 by decide);clear e;generalize k % 8=r at *;lia
theorem c9 {i j:Nat}(h1:(1:Int)+(i:Int) % 8=1+(j:Int) % 8) (h2:i/8=j/8):i=j:=by
 have a:=Nat.div_add_mod i 8;have b:=Nat.div_add_mod j 8;have c:i % 8=j % 8:=by have:=Int.add_left_cancel h1;exact Int.ofNat.inj this
 rw[<-a,<-b,h2,c]
theorem ZQ {t:Nat}(h:t<=26):26 - t+min t 26=26:=by rw[a7X h,Nat.sub_add_cancel h]
theorem ZR {s L:Nat}(h:s<=7):min (3+s) L - 3<=7:=zN (Nat.sub_le_sub_right (Nat.min_le_left _ _) 3) (by rw[Nat.add_sub_cancel_left];exact h)
def O0 (z:Str):Prop:=∀c∈z.cps.toList,G4 c=true
theorem IQ {z:Str}(h:O0 z) (h1:1<=z.cps.toList.length) (h2:z.cps.toList.length<=8):CC z:=⟨by rw[GS];exact h1,by rw[GS];exact h2,h⟩
theorem IR {a b:Str}(h1:O0 a) (h2:O0 b):O0 (a++b):=λc hc=>by rw[AG] at hc;exact(yW.mp hc).elim (h1 c) (h2 c)
theorem MP {c:Nat}(h:G4 c=true):O0 ⟨#[c]⟩:=λd hd=>by
 have:d=c:=by simpa using hd
 subst this;exact h
theorem L7 {c:Nat}{n:Int}(h1:1<=n):(HQ ⟨#[c]⟩ n).cps.toList=a2W n.toNat c:=by
 unfold HQ;split
 . rename_i h;have:n=1:=by
     rw[Bool.or_eq_true,beq_iff_eq,beq_iff_eq] at h;rcases h with h | h;. exact h
     . exact absurd h (show ¬(1=0) by decide)
   subst this;rfl
 . show(List.foldl _ _ _:Array Nat).toList=_;rw[IN];show []++(a2W n.toNat [c]).flatten=_;rw[List.nil_append];induction n.toNat with
   | zero=>rfl
   | succ m ih=>rw[a5V,List.flatten_cons,ih,a5V];rfl
end DL
namespace L2
open PySem PySem.Spec PyProof.Rows
section
variable {X:Cx}
def cA:R2:=λx y H Q=>(y = .non/\Q (.bl (decide (x = .non))) H)\/∃a b:Bool,x = .bl a/\y = .bl b/\Q (.bl (a==b)) H
theorem T4:OpR X (compareOp .Is) cA:=by
 intro pins s σ H x y v u Q I rx ry h;rcases h with h | ⟨a,b,rfl,rfl,q⟩
 . exact Y1 pins s σ H x y v u Q I rx ry h
 . cases rx;cases ry;refine wpAny_is_plain rfl ⟨.bl (a==b),H,I,?_,q⟩;cases a <;> cases b <;> rfl
end
end L2
namespace DL
open PySem PySem.Spec L2
section
variable {K:Frg}{ρ:List (Option DS)}{M:Own}{Q:DS->Own->Prop}{QI:List PyData->Own->Prop}
theorem G5 {d:PyData}(q:Q (.d (.bool (L1 d))) M):D2 K cA (.d d) (.d .none) M Q:=DJ (ZH q)
end
end DL
namespace L2
open PySem PySem.Spec PyProof.Rows
section
variable {prog:Program}{w:World}{A:Around}{E:Value->Shared->Prop}{s:Shared}
theorem MQ {it l:Addr}{aa:Array Value}(ck:l≠it):∀(n i:Nat) (s:Shared) (Q:List Value->Shared->Prop),s.heap.IsListIter it l i->s.heap.IsList l aa->i+n<=aa.size ->(∀h',h'.IsListIter it l (i+n)->Heap.SameBut it s.heap h'->Q ((aa.toList.drop i).take n) { s with heap:=h' })->wpAny (model prog w) A (draw (.ref it) n) Q E s
 | 0,i,s,Q,hit,_,_,hQ=>by show wpAny _ _ (pure []) Q E s;exact zY (by simpa using hQ s.heap hit (Heap.SameBut.refl ..))
 | n+1,i,s,Q,hit,hl,hle,hQ=>by
   have bi:i < aa.size:=by lia
   show wpAny _ _ (pyNext (.ref it) >>= _) Q E s;refine zZ (wpAny_pyNext_list_item hit hl (x:=aa[i]) (by simp[bi]) λg1 t1 q1=>?_);refine zZ (wpAny_holding (MQ ck n (i+1) _ _ t1 (hl.extBut q1.extBut ck) (by lia) λg2 t2 q2=>zY ?_));have hd:aa.toList.drop i=aa[i]::aa.toList.drop (i+1):=by simp[List.drop_eq_getElem_cons,bi]
   have h3:=hQ g2 (by rw[show i+(n+1)=i+1+n by lia];exact t2) (q1.trans q2);rw[hd,List.take_succ_cons] at h3;exact h3
theorem O1 {l:Addr}{aa:Array Value}{Q:List Value->Shared->Prop}(hh:A.handled=none) (hl:s.heap.IsList l aa) (hQ:∀h',Heap.ExtBut s.heap.objs.size s.heap h'->Q aa.toList { s with heap:=h' }):wpAny (model prog w) A (unpackItems (.ref l) aa.size none) Q E s:=by
 have ck:l≠s.heap.objs.size:=by obtain⟨o,ho,_⟩:=hl;exact zC (zM ho)
 unfold unpackItems;refine zZ ?_;unfold notIterableAtAll;refine zZ (wpAny_specialOf hl.typeIs F.slot_list_iter.lookup ?_);refine zY ?_;simp only[Bool.false_eq_true,if_false];refine zZ (wpAny_holding (wpAny_pyIter_list hl ?_));refine zZ (wpAny_holding (MQ ck aa.size 0 _ _ ⟨_,yZ _ rfl,rfl,rfl⟩ (hl.push _) (by lia) λg1 t1 q1=>?_));rw[show List.take aa.size (List.drop 0 aa.toList)=aa.toList by rw[List.drop_zero];exact a7J (by simp),if_neg (by simp)];refine zZ (wpAny_holding (wpAny_pyNext_list_end hh t1 ((hl.push _).extBut q1.extBut ck) (by simp) λg2 e2=>?_));simp only[Option.isSome_none,Bool.false_eq_true,if_false];exact zY (hQ g2 λb o hb e=>e2 b o hb (q1.extBut b o hb (zW _ e)))
end
section
variable {X:Cx}{pos:Pos}
def T5 (K:Frg) (n:Nat) (t:TGs):TG:=λv σ H Q=>∃a xs,v = .ref a/\(SqT K H a xs\/SqL K H a xs)/\xs.length=n/\t xs σ H Q
theorem VU {es:List Expr}{k:Nat}{t:TGs}{n:Nat}(hc:X.calm=true) (h:PGs X es t) (hn:(assignEach es X.env).length=n:=by rfl) (ci:(assignEach es X.env).findIdx? (·.1)=none:=by rfl):PG X (.Tuple es k pos) (T5 X.K n t):=by
 intro pins s σ H v u Q I r hw;obtain⟨a,xs,e1,hq,hl,hw⟩:=hw;rcases hq with hq | hq;. exact XQ hc h hn ci pins s σ H v u Q I r ⟨a,xs,e1,hq,hl,hw⟩
 . subst e1;cases r;obtain⟨aa,rv,pl,hz⟩:=I.list hq;rw[arm_assign_Tuple];refine zZ (wpAny_standAt ?_);unfold unpack;rw[show(assignEach es X.env).length=aa.toArray.size by simp[hn,<-hl,rv.length],ci];refine zZ (wpAny_holding (O1 (I.ok.hd hc) pl.isList λh' hx=>?_));have I1:Inv X pins σ H { s with heap:=h' }:=I.kept (t':=s.toks) λb o e=>hx b o (zC (zM e)) e;exact h pins _ σ H xs _ Q I1 (by simpa using rv) hw
end
end L2
namespace DL
open PySem PySem.Spec L2
theorem T6 {X:Cx}{K:Frg}{pos:Pos}{es:List Expr}{k:Nat}{t:TGs}{n:Nat}(hK:X.K=K) (hc:X.calm=true) (h:PGs X es t) (hn:(assignEach es X.env).length=n:=by rfl) (ci:(assignEach es X.env).findIdx? (·.1)=none:=by rfl):PG X (.Tuple es k pos) (T5 K n t):=hK▸VU hc h hn ci
section
variable {K:Frg}{M:Own}{ρ:List (Option DS)}{P:List (Option DS)->Own->Prop}
theorem VV {n:Nat}{g:TGs}{ds:List PyData}(hn:ds.length=n) (h:DGs K g ds ρ M P):DG K (T5 K n g) (.tuple ds) ρ M P:=λσ H v QQ R dv k=>by unfold DV at dv;obtain⟨a,vs,rfl,hl,hd⟩:=dv;exact⟨a,vs,rfl,.inl hl.sq,by rw[hd.length];exact hn,h σ H vs QQ R hd k⟩
end
end DL
namespace L2
open PySem PySem.Spec PyProof.Rows PySem.W
section
variable {prog:Program}{w:World}{A:Around}{E:Value->Shared->Prop}{s:Shared}
theorem MR {l:Addr}{vs:List Value}{Q:List Value->Shared->Prop}(hl:s.heap.IsList l vs.toArray\/s.heap.IsTuple l vs.toArray) (h:Q vs { s with heap:=(s.heap.push (seqObj "list" #[] 0)).update s.heap.objs.size (a6K (·++vs.toArray)) }) (hsz:vs.length<=sizeLine) :
   wpAny (model prog w) A (collect (.ref l)) Q E s:=by
 rcases hl with hl | ⟨o,ho,hc,n,hd⟩
 . exact collect_list hl h hsz
 unfold collect;refine zZ (wpAny_runValue (codeAny_builtin entry_proto_collect' ?_));show wpAny _ _ (do again (.builtin "list.__iadd__" ⟨[<-newList [],.ref l],[]⟩)) _ _ s;refine zZ (wpAny_newList (zY ⟨Code.quiet_builtin _ (by decide +kernel),codeAny_builtin entry_list_iadd' ?_⟩));show wpAny _ _ (Builtin.List.listExtendWith (.ref s.heap.objs.size) (.ref l) (.ref s.heap.objs.size)) _ _ { s with heap:=s.heap.push (seqObj "list" #[] 0) };unfold Builtin.List.listExtendWith;have e_:(s.heap.push (seqObj "list" #[] 0)).get? l=some o:=zW _ ho;refine zZ (wpAny_typeOf (T:= "tuple") ⟨o,e_,hc⟩ ?_);have ht:(Value.type "tuple" == Value.type "tuple")=true:=by rfl
 rw[if_pos (by rw[ht];simp)];refine zZ (listItems_at e_ hd ?_);refine zZ (listItems_at (xs:=#[]) (n:=0) (yZ _ rfl) rfl ?_);rw[if_neg (by simp)];refine zZ (listUpdate_at (xs:=#[]) (n:=0) (yZ _ rfl) rfl ?_ (xU _) (by show(#[]++vs.toArray).size<=sizeLine+1;simp only[Array.size_append,zJ,List.length_nil];lia));refine zY ?_;show wpAny (model prog w) A (do
     let o <- load s.heap.objs.size
     match o.data with
     | .seq xs _=>pure xs.toList
     | _=>unsupported "internal:collect") Q E { s with heap:=(s.heap.push (seqObj "list" #[] 0)).update s.heap.objs.size (a6K (·++vs.toArray)) };refine zZ (wpAny_load (get?_update_seq (yZ _ rfl) _) ?_);show wpAny _ _ (pure ((#[]:Array Value)++vs.toArray).toList) Q E _;rw[show((#[]:Array Value)++vs.toArray).toList=vs by simp];exact zY h
end
end L2
namespace DL
open PySem PySem.Spec L2
def AE (ts:List (Str×PyData)):List (PyData×PyData):=ts.map λt=>(a0Z t.1,t.2)
def T7 (ts:List (Str×PyData)) (k:Str) (d:PyData):List (Str×PyData):=
 if (ts.any λt=>decide (t.1=k))=true then ts.map (λt=>if t.1=k then (t.1,d) else t) else ts++[(k,d)]
def MS (ts:List (Str×PyData)) (k:Str):List (Str×PyData):=ts.filter λt=>decide (t.1≠k)
def C6:List (Str×PyData)->Str->Option PyData
 | [],_=>none
 | t::r,k=>if t.1=k then some t.2 else C6 r k
section
variable {K:Frg}{H:Hp}{W:Addr->Prop}
theorem BF {t:Str×PyData}{ts:List (Str×PyData)}{ks:List (Key×V)}:DKV K H W (AE (t::ts)) ks↔∃v r,ks=(a1Z t.1,v)::r/\DV K H W t.2 v/\DKV K H W (AE ts) r:=by
 unfold AE;rw[zI];constructor
 . intro h;unfold DKV at h;obtain⟨k',v,r,e,e2,h1,h2⟩:=h;cases k' with
   | inl i=>cases e2
   | inr x=>
     have e3:t.1=x:=by simpa [bL] using e2
     subst e3;exact⟨v,r,e,h1,h2⟩
 . rintro⟨v,r,e,h1,h2⟩;unfold DKV;exact⟨a1Z t.1,v,r,e,rfl,h1,h2⟩
theorem CW {ks:List (Key×V)}:DKV K H W (AE []) ks↔ks=[]:=by unfold AE;simp only[List.map_nil];unfold DKV;exact Iff.rfl
theorem P8 {k:Str}:∀{ts:List (Str×PyData)}{ks:List (Key×V)},DKV K H W (AE ts) ks->(ks.any λkv=>decide (kv.1=a1Z k))=ts.any λt=>decide (t.1=k)
 | [],ks,h=>by rw[CW.mp h];rfl
 | t::ts,ks,h=>by
   obtain⟨v,r,rfl,_,h2⟩:=BF.mp h;rw[a6W,a6W,P8 h2];congr 1;by_cases e:t.1=k;. rw[decide_eq_true e,decide_eq_true (by rw[e])]
   . rw[decide_eq_false e,decide_eq_false λq=>e (by injection q)]
theorem IS {k:Str}{d:PyData}{v:V}(hd:DV K H W d v):∀{ts:List (Str×PyData)}{ks:List (Key×V)},DKV K H W (AE ts) ks ->
   DKV K H W (AE (ts.map λt=>if t.1=k then (t.1,d) else t)) (ks.map λkv=>if kv.1=a1Z k then (kv.1,v) else kv)
 | [],ks,h=>by rw[CW.mp h];exact CW.mpr rfl
 | t::ts,ks,h=>by
   obtain⟨u,r,rfl,h1,h2⟩:=BF.mp h;rw[zI,zI];by_cases e:t.1=k;. rw[if_pos e,if_pos (by rw[e])];exact BF.mpr ⟨v,_,rfl,hd,IS hd h2⟩
   . rw[if_neg e,if_neg λq=>e (by injection q)];exact BF.mpr ⟨u,_,rfl,h1,IS hd h2⟩
theorem MT {k:Str}{d:PyData}{v:V}(hd:DV K H W d v):∀{ts:List (Str×PyData)}{ks:List (Key×V)},DKV K H W (AE ts) ks->DKV K H W (AE (ts++[(k,d)])) (ks++[(a1Z k,v)])
 | [],ks,h=>by rw[CW.mp h];exact BF.mpr ⟨v,[],rfl,hd,CW.mpr rfl⟩
 | t::ts,ks,h=>by obtain⟨u,r,rfl,h1,h2⟩:=BF.mp h;exact BF.mpr ⟨u,_,rfl,h1,MT hd h2⟩
theorem VW {k:Str}{d:PyData}{v:V}{ts:List (Str×PyData)}{ks:List (Key×V)}(h:DKV K H W (AE ts) ks) (hd:DV K H W d v):DKV K H W (AE (T7 ts k d)) (HN ks (a1Z k) v):=by
 unfold T7 HN;rw[P8 h];by_cases c:(ts.any λt=>decide (t.1=k))=true;. rw[if_pos c,if_pos c];exact IS hd h
 . rw[if_neg c,if_neg c];exact MT hd h
theorem MU {k:Str}:∀{ts:List (Str×PyData)}{ks:List (Key×V)},DKV K H W (AE ts) ks->DKV K H W (AE (MS ts k)) (IE ks (a1Z k))
 | [],ks,h=>by rw[CW.mp h];exact CW.mpr rfl
 | t::ts,ks,h=>by
   obtain⟨u,r,rfl,h1,h2⟩:=BF.mp h;have ih:=MU (k:=k) h2;unfold MS IE at ih ⊢;by_cases e:t.1=k;. rw[a4X,a4X,if_neg (by simp[e]),if_neg (by simp[e])];exact ih
   . rw[a4X,a4X,if_pos (by simpa using e),if_pos (by simp;exact e)];exact BF.mpr ⟨u,_,rfl,h1,ih⟩
theorem DW {k:Str}:∀{ts:List (Str×PyData)}{ks:List (Key×V)},DKV K H W (AE ts) ks->(∃d v,C6 ts k=some d/\EL ks (a1Z k)=some v/\DV K H W d v)\/(C6 ts k=none/\EL ks (a1Z k)=none)
 | [],ks,h=>by rw[CW.mp h];exact .inr ⟨rfl,rfl⟩
 | t::ts,ks,h=>by
   obtain⟨u,r,rfl,h1,h2⟩:=BF.mp h;by_cases e:t.1=k;. exact .inl ⟨t.2,u,by simp[C6,e],G1 (by rw[e]),h1⟩
   . have e':¬(a1Z t.1:Key)=a1Z k:=λq=>e (by injection q);rcases DW (k:=k) h2 with ⟨d,v,a1,a2,a3⟩ | ⟨a1,a2⟩
     . exact .inl ⟨d,v,by simp[C6,e,a1],by rw[EM (p:=(a1Z t.1,u)) e'];exact a2,a3⟩
     . exact .inr ⟨by simp[C6,e,a1],by rw[EM (p:=(a1Z t.1,u)) e'];exact a2⟩
theorem F7:∀{kvs:List (PyData×PyData)}{ks:List (Key×V)},DKV K H W kvs ks->ks.length=kvs.length
 | [],ks,h=>by unfold DKV at h;subst h;rfl
 | (k,d)::r,ks,h=>by unfold DKV at h;obtain⟨_,_,_,rfl,_,_,h2⟩:=h;simp[F7 h2]
end
section
variable {K:Frg}{M:Own}{Q:DS->Own->Prop}{ρ:List (Option DS)}{H:Hp}{td ty tv:TE}{D:EndsD}
theorem IT (h:DE K td ρ M λx M1=>DE K ty ρ M1 λy M2=>∃(ts:List (Str×PyData)) (k:Str) (d:PyData),x = .d (.dict (AE ts))/\y = .d (.str k)/\C6 ts k=some d/\Q (.d d) M2):DE K (WT td ty) ρ M Q:=λσ H QQ R kk=>
 h σ H _ R λv H1 x M1 o1 s1 t1 h1=>h1 σ H1 _ (R.step o1 t1) λu H2 y M2 o2 s2 t2 h2=>by
   obtain⟨ts,k,d,rfl,rfl,l,q⟩:=h2;have ff:=s1.step t2;unfold SI DV at ff;obtain⟨a,ks,rfl,nw,e1,e2⟩:=ff;rw[BJ s2];rcases DW (k:=k) e2 with ⟨d',w',a1,a2,a3⟩ | ⟨a1,a2⟩
   . rw[l] at a1;cases a1;exact⟨a,w',rfl,.inl ⟨ks,a1Z k,e1,rfl,a2.symm⟩,kk _ H2 (.d d) M2 o2 a3 (t1.trans t2) q⟩
   . rw[l] at a1;cases a1
theorem CY (h:DE K tv ρ M λz M1=>DE K td ρ M1 λx M2=>DE K ty ρ M2 λy M3=>∃(a:Addr) (ts:List (Str×PyData)) (k:Str) (d:PyData),z = .d d/\x = .loc a/\y = .d (.str k)/\M3 a=some (.d (AE ts))/\ts.length < sizeLine/\D.nx ρ (M3.put a (.d (AE (T7 ts k d))))):DSt K (WU td ty tv) ρ M D:=λσ H E R k1 k2 k3 k4=>
 h σ H _ R λv H1 z M1 o1 s1 t1 h1=>h1 σ H1 _ (R.step o1 t1) λu H2 x M2 o2 s2 t2 h2=>h2 σ H2 _ (R.step o2 (t1.trans t2)) λyv H3 y M3 o3 s3 t3 h3=>by
   obtain⟨a,ts,k,d,rfl,rfl,rfl,m,hl,q⟩:=h3;unfold SI at s2;subst s2;rw[BJ s3];obtain⟨ks,e1,e2⟩:=o3 a _ m;have hd:DV K H3 M3.W d v:=DV.grow (t2.trans t3).grow s1;obtain⟨o4,t4⟩:=II o3 m (VW (k:=k) e2 hd);have ac:ks.length < sizeLine:=by rw[F7 e2];unfold AE;rw[zX];exact hl
   have ta:=((t1.trans t2).trans t3).trans t4;exact⟨a,_,rfl,.inl ⟨ks,a1Z k,e1,rfl,ac,rfl⟩,k1 ρ _ σ _ (R.step o4 ta) ta q⟩
theorem E7 (h:DE K td ρ M λx M1=>∃(a:Addr) (iQ:List (Str×PyData)),x = .loc a/\M1 a=some (.d (AE iQ))/\DE K ty ρ M1 λy M2=>∃(ts:List (Str×PyData)) (k:Str) (d:PyData),y = .d (.str k)/\M2 a=some (.d (AE ts))/\C6 ts k=some d/\Q (.d d) (M2.put a (.d (AE (MS ts k))))):DE K (RU td ty) ρ M Q:=λσ H QQ R kk=>
 h σ H _ R λv H1 x M1 o1 s1 t1 h1=>by
   obtain⟨a,iQ,rfl,m0,h1⟩:=h1;unfold SI at s1;subst s1;obtain⟨kh,e0,_⟩:=o1 a _ m0;refine⟨a,rfl,.inl ⟨kh,.inl e0⟩,h1 σ H1 _ (R.step o1 t1) λu H2 y M2 o2 s2 t2 h2=>?_⟩;obtain⟨ts,k,d,rfl,m,l,q⟩:=h2;rw[BJ s2];obtain⟨ks,e1,e2⟩:=o2 a _ m;rcases DW (k:=k) e2 with ⟨d',w',a1,a2,a3⟩ | ⟨a1,a2⟩
   . rw[l] at a1;cases a1;obtain⟨o4,t4⟩:=II o2 m (MU (k:=k) e2);exact⟨ks,a1Z k,w',e1,rfl,a2,kk _ _ (.d d) _ o4 (DV.grow t4.grow a3) ((t1.trans t2).trans t4) q⟩
   . rw[l] at a1;cases a1
end
end DL
namespace DL
open PySem PySem.Spec L2
section
variable {K:Frg}{M:Own}{ρ:List (Option DS)}{wi:TI}{g:TG}{H:Hp}
theorem T8 {D:EndsD}{i j:Nat}{ta:TA}(h:DA K ta ρ M λxs M1=>∃x y,xs=[x,y]/\D.nx ((ρ.set i (some x)).set j (some y)) M1):DSt K (aP i j ta) ρ M D:=λσ H E R k1 _ _ _=>
 h σ H _ R λvs H1 xs M1 o1 s1 t1 h1=>by obtain⟨x,y,rfl,q⟩:=h1;obtain⟨v,r,rfl,sx,s2⟩:=s1;obtain⟨w,r',rfl,sy,s3⟩:=s2;cases s3;exact⟨v,w,rfl,k1 _ M1 _ H1 (((R.step o1 t1).set sx i).set sy j) t1 q⟩
end
end DL
namespace DL
open PySem PySem.Spec L2
inductive Deed where
 | put (x:Str) (p k:Int) | take (x:Str) | move (x:Str) (p:Int) | count (x:Str) (k:Int) | name (x y:Str) | split (x y:Str) (p k:Int) | join (x y:Str)
def Deed.d:Deed->PyData
 | .put x p k=>.tuple [.str (a0Q "put"),.str x,.int p,.int k]
 | .take x=>.tuple [.str (a0Q "take"),.str x]
 | .move x p=>.tuple [.str (a0Q "move"),.str x,.int p]
 | .count x k=>.tuple [.str (a0Q "count"),.str x,.int k]
 | .name x y=>.tuple [.str (a0Q "name"),.str x,.str y]
 | .split x y p k=>.tuple [.str (a0Q "split"),.str x,.str y,.int p,.int k]
 | .join x y=>.tuple [.str (a0Q "join"),.str x,.str y]
def Deed.names:Deed->List Str
 | .put x _ _=>[x] | .take x=>[x] | .move x _=>[x] | .count x _=>[x] | .name x y=>[x,y] | .split x y _ _=>[x,y] | .join x y=>[x,y]
def Deed.ok (D:Deed):Prop:=∀x∈D.names,CC x
def HF:List (Str×Str):=[("put", "npk"),("take", "n"),("move", "np"),("count", "nk"),("name", "nn"),("split", "nnpk"),("join", "nn")]
def X4:PyData->PyData | .str z=>ZM (HF.lookup z) | _=>.none
def QO (z:Str):Bool:=z == "name" || z == "split" || z == "join"
def EO:PyData->PyData | .tuple (.str w::r)=>.tuple (r.take (if QO w then 2 else 1)) | d=>d
theorem T9 {w f:Str}(h:HF.lookup w=some f):(w = "put" /\ f = "npk")\/(w = "take" /\ f = "n")\/(w = "move" /\ f = "np")\/(w = "count" /\ f = "nk")\/(w = "name" /\ f = "nn")\/(w = "split" /\ f = "nnpk")\/(w = "join" /\ f = "nn"):=by
 unfold HF at h;simp only[a1K,List.lookup_nil] at h;split at h;. rename_i e;exact .inl ⟨eq_of_beq e,by injection h with h;exact h.symm⟩
 split at h;. rename_i e;exact .inr (.inl ⟨eq_of_beq e,by injection h with h;exact h.symm⟩)
 split at h;. rename_i e;exact .inr (.inr (.inl ⟨eq_of_beq e,by injection h with h;exact h.symm⟩))
 split at h;. rename_i e;exact .inr (.inr (.inr (.inl ⟨eq_of_beq e,by injection h with h;exact h.symm⟩)))
 split at h;. rename_i e;exact .inr (.inr (.inr (.inr (.inl ⟨eq_of_beq e,by injection h with h;exact h.symm⟩))))
 split at h;. rename_i e;exact .inr (.inr (.inr (.inr (.inr (.inl ⟨eq_of_beq e,by injection h with h;exact h.symm⟩)))))
 split at h;. rename_i e;exact .inr (.inr (.inr (.inr (.inr (.inr ⟨eq_of_beq e,by injection h with h;exact h.symm⟩)))))
 cases h
theorem O2 {w f:Str}(h:HF.lookup w=some f):f.cps.all (· < 128)=true/\f.cps.size<=4/\Txt.startswith f (a0Q "nn")=QO w/\(QO w=true->2<=f.cps.size/\f.cps[0]?=some 110/\f.cps[1]?=some 110)/\1<=f.cps.size:=by rcases T9 h with ⟨rfl,rfl⟩ | ⟨rfl,rfl⟩ | ⟨rfl,rfl⟩ | ⟨rfl,rfl⟩ | ⟨rfl,rfl⟩ | ⟨rfl,rfl⟩ | ⟨rfl,rfl⟩ <;> decide +kernel
def TB (d:PyData):Prop:=∃w f r,d = .tuple (.str w::r)/\HF.lookup w=some f
theorem MV (D:Deed):TB D.d:=by cases D <;> exact⟨_,_,_,rfl,rfl⟩
theorem G6 (D:Deed):EO D.d = .tuple (D.names.map .str):=by cases D <;> rfl
def AJ:PyData->Str->Nat
 | .tuple (.str w::.str x::_),n=>if w == "move" then 0 else if (w == "count" || w == "split" || w == "join")&&x==n then 1 else 2
 | _,_=>2
def IU:Nat->Str | 0 => "move" | 1 => "add" | _ => "more"
def CM (u v:Nat):Bool:=(u==1||v==1)&&u != 2&&v != 2
def nmS:PyData->List Str | .tuple ds=>ds.map BE | _=>[]
def L8 (d:PyData):List Str:=nmS (EO d)
theorem EQ (D:Deed):L8 D.d=D.names:=by unfold L8;rw[G6];show(D.names.map a0Z).map BE=_;rw[zD];exact List.map_id _
def B7 (a b:PyData):Bool:=(L8 a).any λn=>decide (n∈L8 b)&&!CM (AJ a n) (AJ b n)
theorem IV (u v:Nat):CM u v=CM v u:=by unfold CM;cases (u==1) <;> cases (v==1) <;> cases (u != 2) <;> cases (v != 2) <;> rfl
theorem MW (a b:PyData):B7 a b=B7 b a:=by
 rw[a2V];unfold B7;simp only[b0W,a0W,decide_eq_true_eq];constructor;. rintro⟨n,h1,h2,h3⟩;exact⟨n,h2,h1,by rw[IV];exact h3⟩
 . rintro⟨n,h1,h2,h3⟩;exact⟨n,h2,h1,by rw[IV];exact h3⟩
theorem K8 (a:PyData) (n:Str):AJ a n=0\/AJ a n=1\/AJ a n=2:=by
 unfold AJ;split
 . split;. exact .inl rfl
   . split;. exact .inr (.inl rfl)
     . exact .inr (.inr rfl)
 . exact .inr (.inr rfl)
def ER (d:PyData):Prop:=∃D:Deed,d=D.d/\D.ok
def K9:FSp:=fn1 (λ_=>True) X4
def IW:FSp:=fn1 TB EO
def MX:FSp:=fn2 (λa b=>ER a/\∃n,b = .str n/\CC n) λa b=>.str (IU (AJ a (BE b)))
def fn3 (pre:PyData->PyData->PyData->Prop) (f:PyData->PyData->PyData->PyData):FSp:=⟨λxs _=>∃a b c,xs=[.d a,.d b,.d c]/\pre a b c,λxs M y M'=>∀a b c,xs=[.d a,.d b,.d c]->y = .d (f a b c)/\M'=M⟩
theorem TC {pre:PyData->PyData->PyData->Prop}{f:PyData->PyData->PyData->PyData}{a b c:PyData}{M:Own}{Q:DS->Own->Prop}(p:pre a b c) (q:Q (.d (f a b c)) M):[DS.d a,.d b,.d c].length=3/\(fn3 pre f).pre [.d a,.d b,.d c] M/\∀x M',(fn3 pre f).post [.d a,.d b,.d c] M x M'->Q x M':=⟨rfl,⟨a,b,c,rfl,p⟩,λx M' h=>by obtain⟨rfl,rfl⟩:=h a b c rfl;exact q⟩
def HG:FSp:=fn3 (λa b c=>ER a/\ER b/\∃n,c = .str n/\CC n) λa b c=>.bool (CM (AJ a (BE c)) (AJ b (BE c)))
def P9:FSp:=fn2 (λa b=>ER a/\ER b) λa b=>.bool (B7 a b)
def CN (o:MO):Prop:=∃v:Int,o = .l [.int v]
def CF:FSp:=⟨λxs M=>∃c:Int,xs=[.d (.int c)]/\xL c<=2 ^ 21,λxs M y M'=>M'=M/\∃v:Int,y = .d (.int v)⟩
def CZ:FSp:=⟨λxs M=>∃(ns:List Int) (k:Nat),xs=[.d (.list (ns.map .int)),.d (.int k)]/\k<=1000/\∀i∈ns,xL i<=2 ^ 20,λxs M y M'=>∃p o,M p=none/\CN o/\y = .loc p/\M'=M.put p o⟩
def BM:FSp:=⟨λxs M=>∃p size o,xs=[.loc p,.d (.int size)]/\M p=some o/\CN o/\0 < size/\size < 1073741824,
 λxs M y M'=>∀p size,xs=[.loc p,.d (.int size)]->∃v o,y = .d (.int v)/\0<=v/\v < size/\CN o/\M'=M.put p o⟩
theorem B2 {p:Addr}{size:Int}{o:MO}{M:Own}{Q:DS->Own->Prop}(m:M p=some o) (ho:CN o) (h0:0 < size) (h1:size < 1073741824) (q:∀v o',0<=v->v < size->CN o'->Q (.d (.int v)) (M.put p o')) :
   [DS.loc p,.d (.int size)].length=2/\BM.pre [.loc p,.d (.int size)] M/\∀x M',BM.post [.loc p,.d (.int size)] M x M'->Q x M':=
 ⟨rfl,⟨p,size,o,rfl,m,ho,h0,h1⟩,λx M' h=>by obtain⟨v,o',rfl,h2,h3,h4,rfl⟩:=h p size rfl;exact q v o' h2 h3 h4⟩
def HR:List Str:=["take", "name", "join"]
theorem GU {z:Str}(h:z∈HR):z.cps.toList=[116,97,107,101]\/z.cps.toList=[110,97,109,101]\/z.cps.toList=[106,111,105,110]:=by
 simp only[HR,yX,List.not_mem_nil,or_false] at h;rcases h with rfl | rfl | rfl;. exact .inl (by decide +kernel)
 . exact .inr (.inl (by decide +kernel))
 . exact .inr (.inr (by decide +kernel))
def nxL (a:Nat):Nat:=if a=122 then 97 else a+1
def Run (l:List Nat):Prop:=∀i a b,l[i]?=some a->l[i+1]?=some b->b=nxL a
theorem Run.drop {l:List Nat}(h:Run l) (n:Nat):Run (l.drop n):=λi a b h1 h2=>by rw[List.getElem?_drop] at h1 h2;exact h (n+i) a b h1 (by rw[<-Nat.add_assoc] at h2;exact h2)
theorem Run.take {l:List Nat}(h:Run l) (n:Nat):Run (l.take n):=λi a b h1 h2=>by
 rw[List.getElem?_take] at h1 h2;split at h1
 . split at h2;. exact h i a b h1 h2
   . cases h2
 . cases h1
theorem VX {z:Str}{n c:Nat}(h:z.cps.toList=a2W n c):z∉HR:=λhb=>by
 have key:∀a∈z.cps.toList,a=c:=λa ha=>by rw[h] at ha;exact b0Q ha
 rcases GU hb with e | e | e;. rw[e] at key;have h1:=key 116 (by simp);have h2:=key 97 (by simp);lia
 . rw[e] at key;have h1:=key 110 (by simp);have h2:=key 97 (by simp);lia
 . rw[e] at key;have h1:=key 106 (by simp);have h2:=key 111 (by simp);lia
theorem VY {z:Str}{c:Nat}{m:List Nat}(h:z.cps.toList=c::m) (hr:Run m):z∉HR:=λhb=>by
 rcases GU hb with e | e | e;. rw[e] at h;injection h with _ h;subst h;exact absurd (hr 0 97 107 rfl rfl) (by decide)
 . rw[e] at h;injection h with _ h;subst h;exact absurd (hr 0 97 109 rfl rfl) (by decide)
 . rw[e] at h;injection h with _ h;subst h;exact absurd (hr 0 111 105 rfl rfl) (by decide)
theorem VZ {z:Str}{c:Nat}{m:List Nat}(h:z.cps.toList=m++[c]) (hr:Run m):z∉HR:=λhb=>by
 have hm:m=z.cps.toList.dropLast:=by rw[h];simp
 rcases GU hb with e | e | e;. rw[e] at hm;subst hm;exact absurd (hr 0 116 97 rfl rfl) (by decide)
 . rw[e] at hm;subst hm;exact absurd (hr 0 110 97 rfl rfl) (by decide)
 . rw[e] at hm;subst hm;exact absurd (hr 0 106 111 rfl rfl) (by decide)
def cB (l:List Nat):Bool:=(a3X l.length).all λi=>match l[i]?,l[i+1]? with | some a,some b=>b==nxL a | _,_=>true
theorem ZS {l:List Nat}(h:cB l=true):Run l:=λi a b h1 h2=>by have hi:i < l.length:=(yU.mp h1).1;have:=List.all_eq_true.mp h i (List.mem_range.mpr hi);rw[h1,h2] at this;exact eq_of_beq this
theorem TD:∀t,t < 26->cB ((a0Q "abcdefghijklmnopqrstuvwxyz").cps.toList.drop t++(a0Q "abcdefghijklmnopqrstuvwxyz").cps.toList.take t)=true:=by decide +kernel
def CG:FSp:=⟨λxs M=>∃p n o,xs=[.loc p,.d (.int n)]/\M p=some o/\CN o/\0<=n/\n<=26,
 λxs M y M'=>∀p n,xs=[.loc p,.d (.int n)]->∃(ys:List Str) (o:MO),y = .d (.list (ys.map .str))/\(ys.length:Int)=n/\(∀z∈ys,CC z)/\(∀z∈ys,z∉HR)/\ys.Nodup/\CN o/\M'=M.put p o⟩
theorem O3 {p:Addr}{n:Int}{o:MO}{M:Own}{Q:DS->Own->Prop}(m:M p=some o) (ho:CN o) (h0:0<=n) (h1:n<=26) (q:∀(ys:List Str) o',(ys.length:Int)=n->(∀z∈ys,CC z)->(∀z∈ys,z∉HR)->ys.Nodup->CN o'->Q (.d (.list (ys.map .str))) (M.put p o')) :
   [DS.loc p,.d (.int n)].length=2/\CG.pre [.loc p,.d (.int n)] M/\∀x M',CG.post [.loc p,.d (.int n)] M x M'->Q x M':=
 ⟨rfl,⟨p,n,o,rfl,m,ho,h0,h1⟩,λx M' h=>by obtain⟨v,o',rfl,h2,h3,h4,h5,h6,rfl⟩:=h p n rfl;exact q v o' h2 h3 h4 h5 h6⟩
def X5:PyData->PyData | .tuple ds=>.list ds | d=>d
def G7:FSp:=fn1 ER λd=>X5 (EO d)
theorem IX {c:Int}{M:Own}{Q:DS->Own->Prop}(h:xL c<=2 ^ 21) (q:∀v:Int,Q (.d (.int v)) M):[DS.d (.int c)].length=1/\CF.pre [.d (.int c)] M/\∀x M',CF.post [.d (.int c)] M x M'->Q x M':=⟨rfl,⟨c,rfl,h⟩,λx M' h=>by obtain⟨rfl,v,rfl⟩:=h;exact q v⟩
theorem QR {ns:List Int}{k:Nat}{M:Own}{Q:DS->Own->Prop}(hk:k<=1000) (h:∀i∈ns,xL i<=2 ^ 20) (q:∀p o,M p=none->CN o->Q (.loc p) (M.put p o)) :
   [DS.d (.list (ns.map .int)),.d (.int k)].length=2/\CZ.pre [.d (.list (ns.map .int)),.d (.int k)] M/\∀x M',CZ.post [.d (.list (ns.map .int)),.d (.int k)] M x M'->Q x M':=
 ⟨rfl,⟨ns,k,rfl,hk,h⟩,λx M' h=>by obtain⟨p,o,h1,h2,rfl,rfl⟩:=h;exact q p o h1 h2⟩
theorem E8 {z:Str}(h:CC z):zH (.str z)=true:=F6 (IK h) (by simp[PyData.depth])
def Deed.word:Deed->Str
 | .put .. => "put" | .take .. => "take" | .move .. => "move" | .count .. => "count" | .name .. => "name" | .split .. => "split" | .join .. => "join"
def Deed.fst:Deed->Str
 | .put x _ _=>x | .take x=>x | .move x _=>x | .count x _=>x | .name x _=>x | .split x _ _ _=>x | .join x _=>x
def Deed.rest:Deed->List PyData
 | .put _ p k=>[.int p,.int k] | .take _=>[] | .move _ p=>[.int p] | .count _ k=>[.int k] | .name _ y=>[.str y] | .split _ y p k=>[.str y,.int p,.int k] | .join _ y=>[.str y]
theorem Deed.d_eq (D:Deed):D.d = .tuple (.str D.word::.str D.fst::D.rest):=by cases D <;> rfl
theorem Deed.word_ok (D:Deed):zH (.str D.word)=true:=by cases D <;> (simp only[Deed.word];decide +kernel)
theorem Deed.fst_ok {D:Deed}(h:D.ok):CC D.fst:=by cases D <;> exact h _ a1X
theorem IY (D:Deed):EO (.tuple (.str D.word::.str D.fst::D.rest)) = .tuple ((.str D.fst::D.rest).take (if QO D.word then 2 else 1)):=rfl
theorem BB (a b:Str):a0V (.str a) (.str b)=(a==b):=by simp[a0V]
theorem cC (w a b c:Str):decide (w∈[a,b,c])=(w==a||w==b||w==c):=by rw[a2V];simp[or_assoc]
theorem ZT (u v:Nat) (hu:u=0\/u=1\/u=2) (hv:v=0\/v=1\/v=2):(decide (a0Q "add" ∈ [IU u,IU v])&&!decide (a0Q "more" ∈ [IU u,IU v]))=CM u v:=by rcases hu with rfl | rfl | rfl <;> rcases hv with rfl | rfl | rfl <;> decide +kernel
theorem W0 {xs:List PyData}{v:Int}(h:∀d∈xs,∃i:Int,d = .int i) (h0:0<=v) (h1:v < xs.length):∃i:Int,atI xs v=some (.int i):=by obtain⟨x,e,hm⟩:=SW h0 h1;obtain⟨i,rfl⟩:=h x hm;exact⟨i,e⟩
theorem W1 {ys:List Str}{v:Int}(h0:0<=v) (h1:v < ys.length):∃y,atI (ys.map a0Z) v=some (.str y)/\y∈ys:=by
 obtain⟨n,rfl⟩:∃n:Nat,v=(n:Int):=⟨v.toNat,by lia⟩
 have hn:n < ys.length:=by lia
 exact⟨ys[n],AF (by rw[zF,zV hn];rfl),a2X hn⟩
def cD:Int:=718281828459045235360287471352662497757247093699959574966967
theorem TF:xL cD<=256:=by decide +kernel
theorem ZU {c:Int}(h:xL c<=2 ^ 21):IntMulOk c cD:=PySem.IntMulOk.of_le h TF (by decide)
def nmA (R:Str):PyData->PyData
 | .int i=>match atI R.cps.toList (i/8) with | some c=>.str (HQ ⟨#[c]⟩ (1+i % 8)) | none=>.none
 | d=>d
def nmB (R t:Str):PyData->PyData
 | .int i=>match atI R.cps.toList i with | some c=>.str (⟨#[c]⟩++t) | none=>.none
 | d=>d
def nmC (R t:Str):PyData->PyData
 | .int i=>match atI R.cps.toList i with | some c=>.str (t++⟨#[c]⟩) | none=>.none
 | d=>d
theorem L9 {R:Str}{i:Int}{c:Nat}(h:atI R.cps.toList (i/8)=some c):nmA R (.int i) = .str (HQ ⟨#[c]⟩ (1+i % 8)):=by simp only[nmA,h]
theorem LA {R t:Str}{i:Int}{c:Nat}(h:atI R.cps.toList i=some c):nmB R t (.int i) = .str (⟨#[c]⟩++t):=by simp only[nmB,h]
theorem LB {R t:Str}{i:Int}{c:Nat}(h:atI R.cps.toList i=some c):nmC R t (.int i) = .str (t++⟨#[c]⟩):=by simp only[nmC,h]
def IZ:List Str:=["put", "take", "move", "count", "name", "split", "join", "count", "move"]
theorem TH:∀k∈IZ,PyData.strOk k=true:=by decide +kernel
theorem G8 {k:Str}(h:k∈IZ):zH (.str k)=true:=F6 (TH k h) (by simp[PyData.depth])
theorem QS {k:Str}(h:k∈IZ) (h1:(k==a0Q "put")=false) (h2:(k==a0Q "take")=false) (h3:(k==a0Q "move")=false) (h4:(k==a0Q "count")=false) (h5:(k==a0Q "split")=false):k=a0Q "name" \/ k=a0Q "join" := by
 simp only[IZ,yX,List.not_mem_nil,or_false] at h;rcases h with h | h | h | h | h | h | h | h | h;. rw[h] at h1;exact absurd h1 (by decide +kernel)
 . rw[h] at h2;exact absurd h2 (by decide +kernel)
 . rw[h] at h3;exact absurd h3 (by decide +kernel)
 . rw[h] at h4;exact absurd h4 (by decide +kernel)
 . exact .inl h
 . rw[h] at h5;exact absurd h5 (by decide +kernel)
 . exact .inr h
 . rw[h] at h4;exact absurd h4 (by decide +kernel)
 . rw[h] at h3;exact absurd h3 (by decide +kernel)
def TJ (D E:Deed) (n:Str):Bool:=decide (n∈E.names)&&!CM (AJ D.d n) (AJ E.d n)
theorem TK (D E:Deed):B7 D.d E.d=D.names.any (TJ D E):=by unfold B7;rw[EQ,EQ];rfl
def MY:FSp:=⟨λxs M=>∃ns:List Int,xs=[.d (.list (ns.map .int))]/\ns.length<=63/\∀i∈ns,xL i<=2 ^ 20,λxs M y M'=>y = .d (.bool true)⟩
theorem J0 {R:List Nat}(h:R.Nodup) {i j:Nat}{c:Nat}(h1:atI R (i:Int)=some c) (h2:atI R (j:Int)=some c) (hi:i < R.length) (hj:j < R.length):i=j:=by
 have e1:atI R (i:Int)=some R[i]:=AF (zV hi);have e2:atI R (j:Int)=some R[j]:=AF (zV hj);rw[e1] at h1;rw[e2] at h2;have:R[i]=R[j]:=by rw[Option.some.inj h1,Option.some.inj h2]
 exact(List.getElem_inj h).mp this
theorem nodup_range {N:Nat}{f:Nat->Str}(h:∀i j,i < N->j < N->f i=f j->i=j):((a3X N).map f).Nodup:=by unfold List.Nodup;rw[List.pairwise_map];exact(List.nodup_range (n:=N)).imp_of_mem λ{a b} ha hb hab e=>hab (h a b (List.mem_range.mp ha) (List.mem_range.mp hb) e)
theorem QT (t:Nat):((a0Q "abcdefghijklmnopqrstuvwxyz").cps.toList.drop t++(a0Q "abcdefghijklmnopqrstuvwxyz").cps.toList.take t).Nodup:=by
 have h:((a0Q "abcdefghijklmnopqrstuvwxyz").cps.toList.drop t++(a0Q "abcdefghijklmnopqrstuvwxyz").cps.toList.take t).Perm (a0Q "abcdefghijklmnopqrstuvwxyz").cps.toList:=by refine List.perm_append_comm.trans ?_;rw[List.take_append_drop]
 exact h.nodup_iff.mpr NW
theorem TL {c d:Nat}{t:Str}(h:(⟨#[c]⟩:Str)++t=⟨#[d]⟩++t):c=d:=by have:=congrArg (λs:Str=>s.cps.toList) h;simp only[AG] at this;have:=List.append_cancel_right this;simpa using this
theorem TM {c d:Nat}{t:Str}(h:t++(⟨#[c]⟩:Str)=t++⟨#[d]⟩):c=d:=by have:=congrArg (λs:Str=>s.cps.toList) h;simp only[AG] at this;have:=List.append_cancel_left this;simpa using this
theorem W3 {c d:Nat}{m n:Int}(hm:1<=m) (hn:1<=n) (h:HQ ⟨#[c]⟩ m=HQ ⟨#[d]⟩ n):c=d/\m=n:=by
 have:=congrArg (λs:Str=>s.cps.toList) h;simp only[L7 hm,L7 hn] at this;have hl:=congrArg List.length this;rw[a4K,a4K] at hl;have gB:m=n:=by lia
 refine⟨?_,gB⟩;subst gB;have hc:c∈a2W m.toNat d:=by rw[<-this];exact List.mem_replicate.mpr ⟨by lia,rfl⟩
 exact b0Q hc
end DL
namespace DL
open PySem PySem.Spec L2
def pcD (p c:Int):PyData:=.tuple [.int p,.int c]
def tsD (ts:List Th):List (Str×PyData):=ts.map λt=>(t.1,pcD t.2.1 t.2.2)
def BK (ts:List Th) (k:Str) (p c:Int):List Th:=if (ts.any λt=>decide (t.1=k))=true then ts.map (λt=>if t.1=k then (t.1,p,c) else t) else ts++[(k,p,c)]
def AR (ts:List Th) (k:Str):List Th:=ts.filter λt=>decide (t.1≠k)
def AA:List Th->Str->Option (Int×Int)
 | [],_=>none
 | t::r,k=>if t.1=k then some t.2 else AA r k
theorem D0 (ts:List Th) (k:Str) (p c:Int):T7 (tsD ts) k (pcD p c)=tsD (BK ts k p c):=by
 unfold T7 BK tsD;have e:((ts.map λt=>(t.1,pcD t.2.1 t.2.2)).any λt=>decide (t.1=k))=ts.any λt=>decide (t.1=k):=by rw[List.any_map];rfl
 rw[e];split;. rw[zD,zD];apply yN;intro t _;show(if t.1=k then (t.1,pcD p c) else _)=_;simp only[Function.comp];split <;> rfl
 . simp
theorem CO (ts:List Th) (k:Str):MS (tsD ts) k=tsD (AR ts k):=by unfold MS AR tsD;rw[List.filter_map];rfl
theorem AV (k:Str):∀ts:List Th,C6 (tsD ts) k=(AA ts k).map λv=>pcD v.1 v.2
 | []=>rfl
 | t::r=>by
   have ih:=AV k r;unfold tsD at ih ⊢;simp only[zI,C6,AA];split;. rfl
   . exact ih
theorem F8 {k:Str}:∀{ts:List Th}{v:Int×Int},AA ts k=some v->(k,v)∈ts
 | t::r,v,h=>by
   unfold AA at h;split at h;. rename_i e;cases h;subst e;exact a1X
   . exact yV _ (F8 h)
theorem FW {k:Str}:∀{ts:List Th},AA ts k=none↔k∉ts.map (·.1)
 | []=>by simp[AA]
 | t::r=>by
   unfold AA;rw[zI,yX];split;. rename_i e;simp[e]
   . rename_i e;rw[FW];constructor;. intro h q;rcases q with q | q;exact e q.symm;exact h q
     . intro h q;exact h (.inr q)
theorem O4 {k:Str}{ts:List Th}:(AA ts k).isSome=decide (k∈ts.map (·.1)):=by
 cases h:AA ts k with
 | none=>rw[decide_eq_false (FW.mp h)];rfl
 | some v=>rw[decide_eq_true (zL.mpr ⟨_,F8 h,rfl⟩)];rfl
theorem G9 {t:Th}:∀{ts:List Th},(ts.map (·.1)).Nodup->t∈ts->AA ts t.1=some t.2
 | u::r,nd,h=>by
   unfold AA;rcases yX.mp h with rfl | h;. rw[if_pos rfl]
   . rw[zI,xW] at nd;rw[if_neg λe=>nd.1 (by rw[e];exact zL.mpr ⟨t,h,rfl⟩)];exact G9 nd.2 h
def JJ (ts:List Th) (x:Str) (k:Int):List Th:=match AA ts x with | some v=>BK ts x v.1 (v.2+k) | none=>ts
def doT (ts:List Th):Deed->List Th
 | .put x p k=>BK ts x p k
 | .take x=>AR ts x
 | .move x p=>match AA ts x with | some v=>BK ts x p v.2 | none=>ts
 | .count x k=>JJ ts x k
 | .name x y=>match AA ts x with | some v=>BK (AR ts x) y v.1 v.2 | none=>ts
 | .split x y p k=>BK (JJ ts x (-k)) y p k
 | .join x y=>match AA ts y with | some v=>AR (JJ ts x v.2) y | none=>ts
def Deed.made:Deed->Option Str | .put x _ _=>some x | .name _ y=>some y | .split _ y _ _=>some y | _=>none
def Deed.apart:Deed->Prop | .name x y=>x≠y | .split x y _ _=>x≠y | .join x y=>x≠y | _=>True
def Deed.placed:Deed->Prop | .put _ p _=>0<=p/\p<=999 | .move _ p=>0<=p/\p<=999 | .split _ _ p _=>0<=p/\p<=999 | _=>True
def Deed.real (D:Deed):Prop:=D.ok/\D.apart/\D.placed
def AQ (ns:List Str) (D:Deed):Option Str:=D.names.find? λn=>decide (n∈ns)==decide (D.made=some n)
theorem B8 {ns:List Str}{D:Deed}(h:AQ ns D=none):∀n∈D.names,(n∈ns)↔¬D.made=some n:=λn hn=>by have:=List.find?_eq_none.mp h n hn;by_cases h1:n∈ns <;> by_cases h2:D.made=some n <;> simp_all
def AD (ts:List Th):Deed->Deed
 | .put x _ _=>.take x
 | .take x=>match AA ts x with | some v=>.put x v.1 v.2 | none=>.take x
 | .move x p=>match AA ts x with | some v=>.move x v.1 | none=>.move x p
 | .count x k=>.count x (-k)
 | .name x y=>.name y x
 | .split x y _ _=>.join x y
 | .join x y=>match AA ts y with | some v=>.split x y v.1 v.2 | none=>.join x y
abbrev tsO (ts:List Th):MO:=.d (AE (tsD ts))
def TN (ts:List Th):Prop:=(ts.map (·.1)).Nodup/\ts.length < 63
def goD (w:List Th) (D:Deed):Prop:=TN w/\D.real/\AQ (w.map (·.1)) D=none
theorem BP {D E:Deed}(h:D.d=E.d):D=E:=by
 cases D <;> cases E <;> simp only[Deed.d,PyData.tuple.injEq,List.cons.injEq,PyData.str.injEq,PyData.int.injEq,and_true,true_and,reduceCtorEq,and_false,false_and,List.nil_eq] at h <;>
   first
   | (obtain⟨_,h⟩:=h;first | (obtain⟨rfl,rfl,rfl,rfl⟩:=h;rfl) | (obtain⟨rfl,rfl,rfl⟩:=h;rfl) | (obtain⟨rfl,rfl⟩:=h;rfl) | (subst h;rfl))
   | (obtain⟨rfl,rfl,rfl,rfl⟩:=h;rfl) | (obtain⟨rfl,rfl,rfl⟩:=h;rfl) | (obtain⟨rfl,rfl⟩:=h;rfl) | (subst h;rfl)
   | exact absurd h.1 (by decide +kernel)
end DL
namespace DL
open PySem PySem.Spec L2
theorem W4 (ds:List PyData):(ds.filter λ_=>true)=ds:=List.filter_eq_self.mpr (by simp)
theorem QU (a b:Bool):a0V (.bool a) (.bool b)=(a==b):=by cases a <;> cases b <;> rfl
theorem MZ {ts:List Th}{x:Str}{p c:Int}(h:x∈ts.map (·.1)):BK ts x p c=ts.map λt=>if t.1=x then (t.1,p,c) else t:=by unfold BK;obtain⟨t,ht,e⟩:=zL.mp h;rw[if_pos (List.any_eq_true.mpr ⟨t,ht,by simpa using e⟩)]
theorem GA {ts:List Th}{x:Str}{p c:Int}(h:x∉ts.map (·.1)):BK ts x p c=ts++[(x,p,c)]:=by unfold BK;rw[if_neg];intro e;obtain⟨t,ht,e⟩:=List.any_eq_true.mp e;exact h (zL.mpr ⟨t,ht,by simpa using e⟩)
theorem J1 {ts:List Th}{x:Str}{p c:Int}(h:x∈ts.map (·.1)):(BK ts x p c).map (·.1)=ts.map (·.1):=by rw[MZ h,zD];apply yN;intro t _;simp only[Function.comp];split <;> rfl
theorem BQ {ts:List Th}{x:Str}(h:x∈ts.map (·.1)):∃v,AA ts x=some v:=by
 cases e:AA ts x with
 | none=>exact absurd h (FW.mp e)
 | some v=>exact⟨v,rfl⟩
theorem PB {ts:List Th}{x:Str}{v:Int×Int}(h:AA ts x=some v):x∈ts.map (·.1):=zL.mpr ⟨_,F8 h,rfl⟩
theorem E9 {ts:List Th}{x:Str}{k:Int}:(JJ ts x k).map (·.1)=ts.map (·.1):=by
 unfold JJ;cases e:AA ts x with
 | none=>rfl
 | some v=>exact J1 (PB e)
theorem D3 {ts:List Th}(h:ts.length < 64):(tsD ts).length < sizeLine:=by unfold tsD;rw[zX];exact zP h (by decide)
theorem D4 (ts:List Th) (x:Str):(AR ts x).map (·.1)=(ts.map (·.1)).filter λn=>decide (n≠x):=by unfold AR;rw[List.filter_map];rfl
def LC (ns:List Str):Deed->List Str
 | .put x _ _=>ns++[x]
 | .take x=>ns.filter λn=>decide (n≠x)
 | .move _ _=>ns
 | .count _ _=>ns
 | .name x y=>(ns.filter λn=>decide (n≠x))++[y]
 | .split _ y _ _=>ns++[y]
 | .join _ y=>ns.filter λn=>decide (n≠y)
theorem ES {ns:List Str}{D:Deed}(ha:AQ ns D=none) {n:Str}(hn:n∈D.names) (hm:D.made≠some n):n∈ns:=(B8 ha n hn).mpr hm
theorem GV {ns:List Str}{D:Deed}(ha:AQ ns D=none) {n:Str}(hn:n∈D.names) (hm:D.made=some n):n∉ns:=λq=>(B8 ha n hn).mp q hm
theorem KA {ts:List Th}{D:Deed}(hr:D.real) (ha:AQ (ts.map (·.1)) D=none):(doT ts D).map (·.1)=LC (ts.map (·.1)) D:=by
 cases D with
 | put x p k=> show(BK ts x p k).map (·.1)=_;rw[GA (GV ha (by simp[Deed.names]) rfl),xJ];rfl
 | take x=>exact D4 ts x
 | move x p=> obtain⟨v,hv⟩:=BQ (ES ha (n:=x) (by simp[Deed.names]) (by simp[Deed.made]));simp only[doT,hv];exact J1 (PB hv)
 | count x k=>exact E9
 | name x y=>
   obtain⟨v,hv⟩:=BQ (ES ha (n:=x) (by simp[Deed.names]) (by simp[Deed.made];exact λe=>hr.2.1 e.symm));simp only[doT,hv];have hy:y∉(AR ts x).map (·.1):=by rw[D4];intro q;exact GV ha (n:=y) (by simp[Deed.names]) rfl (yM.mp q).1
   rw[GA hy,xJ,D4];rfl
 | split x y p k=>
   show(BK (JJ ts x (-k)) y p k).map (·.1)=_;have hy:y∉(JJ ts x (-k)).map (·.1):=by rw[E9];exact GV ha (n:=y) (by simp[Deed.names]) rfl
   rw[GA hy,xJ,E9];rfl
 | join x y=> obtain⟨v,hv⟩:=BQ (ES ha (n:=y) (by simp[Deed.names]) (by simp[Deed.made]));simp only[doT,hv];rw[D4,E9];rfl
theorem LD {ns:List Str}{D:Deed}(nd:ns.Nodup) (ha:AQ ns D=none):(LC ns D).Nodup:=by
 have ij:∀{l:List Str}{y:Str},l.Nodup->y∉l->(l++[y]).Nodup:=λ{l y} h1 h2=>by rw[List.nodup_append];exact⟨h1,by simp,λa ha b hb e=>by simp at hb;subst hb;subst e;exact h2 ha⟩
 cases D with
 | put x p k=>exact ij nd (GV ha (by simp[Deed.names]) rfl)
 | take x=>exact nd.sublist a8X
 | move x p=>exact nd
 | count x k=>exact nd
 | name x y=>exact ij (nd.sublist a8X) λq=>GV ha (n:=y) (by simp[Deed.names]) rfl (yM.mp q).1
 | split x y p k=>exact ij nd (GV ha (n:=y) (by simp[Deed.names]) rfl)
 | join x y=>exact nd.sublist a8X
theorem O5 (ns:List Str) (D:Deed):(LC ns D).length<=ns.length+1:=by cases D <;> simp only[LC,yY,b0K,List.length_nil];all_goals first | lia | exact zN (yL _ _) (Nat.le_succ _) | exact Nat.add_le_add_right (yL _ _) 1
theorem ZV {ts:List Th}{D:Deed}(h:goD ts D):((doT ts D).map (·.1)).Nodup/\(doT ts D).length < 64:=by obtain⟨⟨nd,hl⟩,hr,ha⟩:=h;have e:=KA hr ha;refine⟨by rw[e];exact LD nd ha,?_⟩;have h1:=O5 (ts.map (·.1)) D;have h2:=congrArg List.length e;simp only[zX] at h1 h2;lia
end DL
namespace DL
open PySem PySem.Spec L2
theorem B9 (ts:List Th) (x:Str) (p c:Int) (n:Str):AA (BK ts x p c) n=if n=x then some (p,c) else AA ts n:=by
 by_cases h:x∈ts.map (·.1)
 . rw[MZ h];induction ts with
   | nil=>simp at h
   | cons t r ih=>
     rw[zI];by_cases e:t.1=x
     . rw[if_pos e];unfold AA;by_cases en:n=x;. subst en;rw[if_pos e,if_pos rfl]
       . have e1:¬t.1=n:=λq=>en (q.symm.trans e);rw[if_neg e1,if_neg en,if_neg e1];by_cases hr:x∈r.map (·.1);. rw[ih hr,if_neg en]
         . have hm:(r.map λt=>if t.1=x then (t.1,p,c) else t)=r:=by
             conv=>rhs;rw[<-List.map_id r]
             apply yN;intro u hu;rw[if_neg λq=>hr (by rw[<-q];exact zL.mpr ⟨u,hu,rfl⟩)];rfl
           rw[hm]
     . rw[if_neg e];have hr:x∈r.map (·.1):=by rw[zI,yX] at h;exact h.resolve_left λq=>e q.symm
       unfold AA;by_cases e1:t.1=n;. rw[if_pos e1,if_pos e1,if_neg λq=>e (e1.trans q)]
       . rw[if_neg e1,if_neg e1,ih hr]
 . rw[GA h];have:∀ts:List Th,x∉ts.map (·.1)->AA (ts++[(x,p,c)]) n=if n=x then some (p,c) else AA ts n:=by
     intro ts;induction ts with
     | nil=>
       intro _;show(if x=n then _ else _)=_;by_cases e:n=x;. rw[if_pos e,if_pos e.symm]
       . rw[if_neg e,if_neg λq=>e q.symm]
     | cons t r ih=>
       intro hx;rw[zI,yX] at hx;rw[List.cons_append];unfold AA;by_cases e1:t.1=n;. rw[if_pos e1,if_pos e1,if_neg λq=>hx (.inl (e1.trans q).symm)]
       . rw[if_neg e1,if_neg e1,ih λq=>hx (.inr q)]
   exact this ts h
theorem B3 (ts:List Th) (x n:Str):AA (AR ts x) n=if n=x then none else AA ts n:=by
 induction ts with
 | nil=>show none=_;split <;> rfl
 | cons t r ih=>
   unfold AR at ih ⊢;rw[a4X];by_cases e:t.1=x
   . rw[if_neg (by simp[e]),ih];by_cases en:n=x;. rw[if_pos en,if_pos en]
     . rw[if_neg en,if_neg en]
       conv=>rhs;unfold AA
       rw[if_neg λq=>en (q.symm.trans e)]
   . rw[if_pos (by simpa using e)];unfold AA;rw[ih];by_cases e1:t.1=n;. rw[if_pos e1,if_pos e1,if_neg λq=>e (e1.trans q)]
     . rw[if_neg e1,if_neg e1]
theorem J2 (ts:List Th) (x:Str) (k:Int) (n:Str):AA (JJ ts x k) n=if n=x then (AA ts x).map λv=>(v.1,v.2+k) else AA ts n:=by
 unfold JJ;cases h:AA ts x with
 | none=>
   by_cases e:n=x;. subst e;rw[if_pos rfl,h];rfl
   . rw[if_neg e]
 | some v=>rw[B9];rfl
theorem GB {ts:List Th}(nd:(ts.map (·.1)).Nodup) {t:Th}:t∈ts↔AA ts t.1=some t.2:=⟨λh=>G9 nd h,λh=>F8 h⟩
theorem BY {ts:List Th}{D:Deed}(hr:D.real) (ha:AQ (ts.map (·.1)) D=none) (n:Str) :
   AA (doT ts D) n=match D with
     | .put x p k=>if n=x then some (p,k) else AA ts n
     | .take x=>if n=x then none else AA ts n
     | .move x p=>if n=x then (AA ts x).map λv=>(p,v.2) else AA ts n
     | .count x k=>if n=x then (AA ts x).map λv=>(v.1,v.2+k) else AA ts n
     | .name x y=>if n=y then AA ts x else if n=x then none else AA ts n
     | .split x y p k=>if n=y then some (p,k) else if n=x then (AA ts x).map λv=>(v.1,v.2 + -k) else AA ts n
     | .join x y=>if n=y then none else if n=x then (AA ts x).bind λv=>(AA ts y).map λu=>(v.1,v.2+u.2) else AA ts n:=by
 cases D with
 | put x p k=>exact B9 _ _ _ _ _
 | take x=>exact B3 _ _ _
 | move x p=> obtain⟨v,hv⟩:=BQ (ES ha (n:=x) (by simp[Deed.names]) (by simp[Deed.made]));simp only[doT,hv];exact B9 _ _ _ _ _
 | count x k=>exact J2 _ _ _ _
 | name x y=> obtain⟨v,hv⟩:=BQ (ES ha (n:=x) (by simp[Deed.names]) (by simp[Deed.made];exact λe=>hr.2.1 e.symm));simp only[doT,hv];rw[B9,B3]
 | split x y p k=> show AA (BK (JJ ts x (-k)) y p k) n=_;rw[B9,J2]
 | join x y=> obtain⟨v,hv⟩:=BQ (ES ha (n:=x) (by simp[Deed.names]) (by simp[Deed.made]));obtain⟨u,hu⟩:=BQ (ES ha (n:=y) (by simp[Deed.names]) (by simp[Deed.made]));simp only[doT,hu];rw[B3,J2,hv];rfl
theorem FI {w:List Th}{D:Deed}(h:goD w D) {n:Str}(hn:n∈D.names) (hm:D.made≠some n):∃v,AA w n=some v:=BQ (ES h.2.2 hn hm)
theorem N0 {ns:List Str}{D:Deed}(h:∀n∈D.names,(n∈ns)↔¬D.made=some n):AQ ns D=none:=by unfold AQ;rw[List.find?_eq_none];intro n hn;have:=h n hn;by_cases h1:n∈ns <;> by_cases h2:D.made=some n <;> simp_all
theorem C7 {ts:List Th}{n:Str}:n∈ts.map (·.1)↔(AA ts n).isSome=true:=by rw[O4];simp
end DL
namespace DL
open PySem PySem.Spec L2
def FJ (ys:List Str):PyData:=.list (ys.map .str)
theorem C8 {as bs:List Str}(h:FJ as=FJ bs):as=bs:=MK (by unfold FJ at h;exact PyData.list.inj h)
end DL
namespace L2
open PySem PySem.Spec PyProof.Rows
def cF:List Nat:=[0,1,2,3,4,5,6,7,8,9,10,11,12,13,14,15,16,17,18,19,20,21,22,23]
theorem TQ {x:Str}{i:Nat}:∀(l:List Str) (k n:Nat),(l.zip (List.range' k n)).lookup x=some i->k<=i/\l[i - k]?=some x
 | [],_,_,h=>by cases h
 | _::_,_,0,h=>by cases h
 | a::r,k,n+1,h=>by
   rw[List.range'_succ,List.zip_cons_cons,a1K] at h;split at h;. rename_i e;have h:=Option.some.inj h;subst h;rw[Nat.sub_self];exact⟨zR _,by rw[eq_of_beq e];rfl⟩
   . obtain⟨h1,h2⟩:=TQ r (k+1) n h;refine⟨by lia,?_⟩;rw[show i - k=(i - (k+1))+1 by lia];exact h2
theorem O6 {l:List Str}{x:Str}{i:Nat}(h:(l.zip cF).lookup x=some i):l[i]?=some x:=(TQ l 0 24 h).2
theorem pvx {X:Cx}{i:Nat}{x:Str}{pos:Pos}(h:(X.N.zip cF).lookup x=some i) (hv:Vis X.env.scope x) (hd:(x==("__debug__":Str))=false:=by decide)
   (dX:(x==("__classdict__":Str))=false:=by decide):PE X (.Name x pos) (UD i):=RF (O6 h) hv hd dX
end L2
namespace DL
open PySem PySem.Spec L2
theorem AB {K:Frg}{M:Own}{Q:DS->Own->Prop}{a b:Str}{t:Bool}(h:(zH (.str a)&&zH (.str b)&&(a0V (.str a) (.str b)==t))=true) (q:Q (.d (.bool t)) M):D2 K (JH K false) (.d (.str a)) (.d (.str b)) M Q:=by simp only[a0W,beq_iff_eq] at h;exact CB h.1.1 h.1.2 (by rw[if_neg nft,h.2];exact q)
end DL
namespace L2
open PySem PySem.Spec
def cG (scope:Scope) (NC:List Str):Bool:=(NC.all λx=>(scope.names.lookup x).isSome)&&scope.names.all λy=>!(y.2==.local||y.2==.free||y.2==.cell)||y.1==a0Q ".0" || NC.contains y.1
theorem TR {X:Cx}{scope:Scope}{NC:List Str}{fr:List (Option Nat)}{fe:Scope}{ON:List Str}(_:cG scope NC=true) (h:SB fe ON scope NC fr=true) (e:X.env.scope=fe) (eN:X.N=ON):CSc X scope NC fr:=CSc.of h e eN
end L2
namespace DL
open PySem PySem.Spec L2
section
variable {K:Frg}{M:Own}{Q:DS->Own->Prop}{H:Hp}
theorem HH {W:Addr->Prop}:∀{bs:List Int},DVs K H W (bs.map PyData.int) (bs.map V.int)
 | []=>DVs.nil
 | b::bs=>DVs.cons (by unfold DV;rfl) HH
end
end DL
namespace DL
open PySem PySem.Spec L2
section
variable {K:Frg}{ρ:List (Option DS)}{M:Own}{H:Hp}{Q:DS->Own->Prop}{QI:List PyData->Own->Prop}{tl td ty tx:TE}{D:EndsD}{t:TS}
theorem BA {i:Nat}{a:Addr}{kvs:List (PyData×PyData)}(e:ρ[i]?=some (some (.loc a))) (m:M a=some (.d kvs)) (h:DSt K t (ρ.set i (some (.d (.dict kvs)))) (M.del a) D):DSt K t ρ M D:=λσ H E R k1 k2 k3 k4=>by
 have hs:(M.del a).Sub M:=λb o q=>by
   unfold Own.del at q;by_cases hb:b=a;. rw[if_pos hb] at q;cases q
   . rw[if_neg hb] at q;exact q
 have st:Step K M (M.del a) H H:=⟨B1 hs⟩
 obtain⟨v,e1,e2⟩:=R.slot i _ e;obtain⟨vs,q1,q2⟩:=R.own a _ m;have R1:Rel K (M.del a) ρ σ H:=R.step (R.own.sub hs) st;have R2:=R1.set (x:=.d (.dict kvs)) (v:=v) (by
   unfold SI DV;refine⟨a,vs,e2,(λw=>w (by unfold Own.del;rw[if_pos rfl])),.inl q1,q2.grow (B1 hs)⟩) i;have e3:σ.set i (some v)=σ:=by
   apply List.ext_getElem?;intro j;rw[List.getElem?_set];by_cases dY:i=j
   . subst dY;rw[if_pos rfl,e1];split;. rfl
     . rename_i hl;rw[List.getElem?_eq_none (by lia)] at e1;cases e1
   . rw[if_neg dY]
 rw[e3] at R2;exact h σ H E R2 (λa b c d e f g=>k1 a b c d e (st.trans f) g) (λa b c d e f g q=>k2 a b c d e f (st.trans g) q) (λa b c d e f g=>k3 a b c d e (st.trans f) g) (λa b c d e f g=>k4 a b c d e (st.trans f) g)
end
end DL
namespace DL
open PySem PySem.Spec L2
theorem HX (a b:Int):a0V (.int a) (.int b)=decide (a=b):=by
 have:a0V (.int a) (.int b)=(a==b):=by simp[a0V]
 rw[this];rfl
end DL
namespace DL
open PySem PySem.Spec L2
theorem DX {D:Deed}(h:D.ok):zH D.d=true:=by
 have wk:a8V (.str D.word)=true:=zG D.word_ok;have nk:∀x∈D.names,a8V (.str x)=true:=λx hx=>IK (h x hx);refine F6 ?_ (by cases D <;> simp[Deed.d,PyData.depth,a1V]);cases D <;> (refine ZK ?_;simp only[List.forall_mem_cons])
 . exact⟨wk,nk _ (by simp[Deed.names]),rfl,rfl,by simp⟩
 . exact⟨wk,nk _ (by simp[Deed.names]),by simp⟩
 . exact⟨wk,nk _ (by simp[Deed.names]),rfl,by simp⟩
 . exact⟨wk,nk _ (by simp[Deed.names]),rfl,by simp⟩
 . exact⟨wk,nk _ (by simp[Deed.names]),nk _ (by simp[Deed.names]),by simp⟩
 . exact⟨wk,nk _ (by simp[Deed.names]),nk _ (by simp[Deed.names]),rfl,rfl,by simp⟩
 . exact⟨wk,nk _ (by simp[Deed.names]),nk _ (by simp[Deed.names]),by simp⟩
theorem ET {d:PyData}(h:zH d=true):a0V d d=true:=PySem.SeqAt.eqv_refl _ (zG h)
end DL
namespace DL
open PySem PySem.Spec L2
theorem W5 {n k:Nat}{d:PyData}(h:(BU 0 ((n:Nat):Int).toNat)[k]?=some d):k < n/\d = .int (k:Int):=by
 have hl:k < n:=by have:=(yU.mp h).1;simpa [BU] using this
 refine⟨hl,?_⟩;unfold BU at h;rw[zF,List.getElem?_range (by lia)] at h;simp at h;exact h.symm
theorem TU (n:Nat):(BU 0 ((n:Nat):Int).toNat).length=n:=by simp[BU]
end DL
namespace DL
open PySem PySem.Spec L2
mutual
def plD:PyData->Bool
 | .int _=>true
 | .str _=>true
 | .tuple ds=>plAll ds
 | _=>false
def plAll:List PyData->Bool
 | []=>true
 | d::r=>plD d&&plAll r
end
mutual
theorem TV:∀(a b:PyData),plD a=true->plD b=true->a0V a b=true->a=b
 | .int i,.int j,_,_,h=>by simp only[a0V,beq_iff_eq] at h;rw[h]
 | .str i,.str j,_,_,h=>by simp only[a0V,beq_iff_eq] at h;rw[h]
 | .tuple xs,.tuple ys,h1,h2,h=>by simp only[a0V] at h;rw[eqv_plAll xs ys (by simpa [plD] using h1) (by simpa [plD] using h2) h]
 | .int _,.str _,_,_,h=>by cases h
 | .int _,.tuple _,_,_,h=>by cases h
 | .str _,.int _,_,_,h=>by cases h
 | .str _,.tuple _,_,_,h=>by cases h
 | .tuple _,.int _,_,_,h=>by cases h
 | .tuple _,.str _,_,_,h=>by cases h
 | .none,_,h,_,_=>by cases h
 | .bool _,_,h,_,_=>by cases h
 | .list _,_,h,_,_=>by cases h
 | .dict _,_,h,_,_=>by cases h
 | _,.none,_,h,_=>by cases h
 | _,.bool _,_,h,_=>by cases h
 | _,.list _,_,h,_=>by cases h
 | _,.dict _,_,h,_=>by cases h
theorem eqv_plAll:∀(a b:List PyData),plAll a=true->plAll b=true->PyData.eqvAll a b=true->a=b
 | [],[],_,_,_=>rfl
 | x::xs,y::ys,h1,h2,h=>by simp only[plAll,a0W] at h1 h2;simp only[PyData.eqvAll,a0W] at h;rw[TV x y h1.1 h2.1 h.1,eqv_plAll xs ys h1.2 h2.2 h.2]
 | [],_::_,_,_,h=>by cases h
 | _::_,[],_,_,h=>by cases h
end
end DL
namespace DL
open PySem PySem.Spec L2
section
variable {M:Own}{Q:DS->Own->Prop}{ys:List Str}{w:List Th}{D:Deed}{p:Addr}{L:List Int}
theorem QV {ts:List Th}{x:Str}{p c:Int}:(BK ts x p c).length<=ts.length+1:=by
 unfold BK;split;. rw[zX];lia
 . rw[yY];exact zR _
theorem ZW {a b:List Th}(h:tsO a=tsO b):a=b:=by
 have h1:AE (tsD a)=AE (tsD b):=MO.d.inj h;clear h;induction a generalizing b with
 | nil=>cases b with | nil=>rfl | cons _ _=>cases h1
 | cons x r ih=>cases b with
   | nil=>cases h1
   | cons y s=> simp only[AE,tsD,pcD,zI,List.cons.injEq,Prod.mk.injEq,PyData.str.injEq,PyData.tuple.injEq,PyData.int.injEq,and_true] at h1;rw[ih (b:=s) (by simpa [AE,tsD,pcD] using h1.2)];obtain⟨⟨e1,e2,e3⟩,_⟩:=h1;obtain⟨x1,x2,x3⟩:=x;obtain⟨y1,y2,y3⟩:=y;simp only at e1 e2 e3;rw[e1,e2,e3]
structure There (ys:List Str) (w:List Th):Prop where
 nd:(w.map (·.1)).Nodup
 sub:∀t∈w,t.1∈ys
theorem TX {M N:Own}{a:Addr}(h:M.Sub N) (n:N a=none):M a=none:=by
 cases e:M a with
 | none=>rfl
 | some o=>have:=h a o e;rw[n] at this;cases this
theorem TY {ys:List Str}{w:List Th}{D:Deed}(h:There ys w) (hg:goD w D) (hD:∀x∈D.names,x∈ys):There ys (doT w D):=by
 obtain⟨nd,hl⟩:=ZV hg;refine⟨nd,λt ht=>?_⟩;have h1:t.1∈(doT w D).map (·.1):=zL.mpr ⟨t,ht,rfl⟩;rw[KA hg.2.1 hg.2.2] at h1;have hw:∀z∈w.map (·.1),z∈ys:=λz hz=>by obtain⟨s,hs,rfl⟩:=zL.mp hz;exact h.sub s hs
 cases D with
 | put x p k=>rcases yW.mp h1 with q | q;exact hw _ q;exact hD _ (by simpa [Deed.names] using q)
 | take x=>exact hw _ (yM.mp h1).1
 | move x p=>exact hw _ h1
 | count x k=>exact hw _ h1
 | name x y=>rcases yW.mp h1 with q | q;exact hw _ (yM.mp q).1;exact hD _ (by rw[List.mem_singleton.mp q];simp[Deed.names])
 | split x y p k=>rcases yW.mp h1 with q | q;exact hw _ q;exact hD _ (by rw[List.mem_singleton.mp q];simp[Deed.names])
 | join x y=>exact hw _ (yM.mp h1).1
theorem TZ:∀{l ys:List Str},l.Nodup->(∀z∈l,z∈ys)->l.length<=ys.length
 | [],_,_,_=>xU _
 | a::r,ys,hn,hs=>by rw[xW] at hn;have ha:=hs a (by simp);have:=TZ (l:=r) (ys:=ys.erase a) hn.2 λz hz=>(List.mem_erase_of_ne (by rintro rfl;exact hn.1 hz)).mpr (hs z (yV _ hz));rw[List.length_erase_of_mem ha] at this;have:=List.length_pos_of_mem ha;rw[b0K];lia
theorem There.few {ys:List Str}{w:List Th}(h:There ys w):w.length<=ys.length:=by
 have:=TZ h.nd λz hz=>by obtain⟨t,h1,rfl⟩:=zL.mp hz;exact h.sub t h1
 rw[zX] at this;exact this
end
end DL
namespace L2
open PySem PySem.Spec PyProof.Rows
def O7:List V->Hp->VK->Prop:=λxs H Q=>∃(p:Addr) (kvs:List (Key×V)),xs=[.ref p]/\Rd H p (.dK kvs)/\∀q:Addr,H q=none->Q (.ref q) (upd H q (.dK kvs))
theorem O8 {X:Cx}:B4 X (.type "dict") O7:=by intro pins s σ H xs us Q I r h;obtain⟨p,kvs,rfl,hp,q⟩:=h;obtain⟨u,rfl,ru⟩:=FZ r;cases ru;obtain⟨hz,ki,vs,rel,hd⟩:=EF I.hok hp;have ac:vs.length=kvs.length:=(Paired.length rel).symm;refine kt_call_dict ki hd (by rw[ac];exact hz) λh' fB sb=>?_;have hn:H s.heap.objs.size=none:=I.hok.fresh (zR _);have keep:∀b o,s.heap.get? b=some o->h'.get? b=some o:=λb o e=>sb.extBut b o (zC (zM e)) (zW _ e);refine⟨.ref s.heap.objs.size,_,I.laid (t':=s.toks) (o:=.dK kvs) keep (zR _) ?_,rfl,q _ hn⟩;exact NS hz (beq_eq_false_iff_ne.mpr (a5J (zC I.big))) rel fB
end L2
namespace DL
open PySem PySem.Spec L2
section
variable {X:Cx}{K:Frg}
theorem U0 (h:X.K=K):B4 X (.type "dict") O7:=O8
end
end DL
namespace L2
open PySem PySem.Spec PyProof.Rows PySem.SeqAt
def PD (as bs:List (Str×PyData)):Prop:=as.length=bs.length/\∀p∈as,∃d,DL.C6 bs p.1=some d/\p.2.canLay0=true/\d.canLay0=true/\p.2.depth<=8/\a0V p.2 d=true
def rDQ (K:Frg) (neg:Bool):R2:=λx y H Q=>∃(W:Addr->Prop) (as bs:List (Str×PyData)),DV K H W (.dict (DL.AE as)) x/\DV K H W (.dict (DL.AE bs)) y/\PD as bs/\Q (.bl (!neg)) H
theorem PF {X:Cx}{A:Around}{pins:List (Addr×Obj)}{σ:St}{H:Hp}{s:Shared}{W:Addr->Prop}(I:Inv X pins σ H s) (hu:A.units+64 < cLine) {bs:List (Str×PyData)}{kb:List (Key×V)}{vb:List (Key×Value)}(hb:DKV X.K H W (DL.AE bs) kb) (rb:KV kb vb) : ∀{as:List (Str×PyData)}{ka:List (Key×V)}{va:List (Key×Value)},DKV X.K H W (DL.AE as) ka->KV ka va->(∀p∈as,∃d,DL.C6 bs p.1=some d/\p.2.canLay0=true/\d.canLay0=true/\p.2.depth<=8/\a0V p.2 d=true)->PySem.W.KeqHits A.in1 s vb va true
 | [],ka,va,ha,ra,h=>by have ha:DKV X.K H W [] ka:=ha;unfold DKV at ha;subst ha;cases ra;exact .nil
 | p::r,ka,va,ha,ra,h=>by
   have ha:DKV X.K H W ((a0Z p.1,p.2)::DL.AE r) ka:=ha;unfold DKV at ha;obtain⟨k',v,ks,rfl,ek,hd,hr⟩:=ha;cases ra with
   | cons q ra'=>
     rename_i y ys;obtain⟨e1,rv⟩:=q;obtain⟨d,l,s1,s2,kG,e⟩:=h p (a1X ..);obtain rfl:k'=a1Z p.1:=by
       cases k' with
       | inl i=>cases ek
       | inr z=>cases ek;rfl
     obtain⟨y1,y2⟩:=y;simp only at e1 rv;subst e1;rcases DL.DW (k:=p.1) hb with ⟨d',w',a1,a2,a3⟩ | ⟨a1,a2⟩
     . rw[l] at a1;cases a1;have:=rb.val (a1Z p.1);rw[a2] at this;generalize hva:valueAt vb (a1Z p.1)=o at this;cases o with
       | none=>cases this
       | some u=> have ru:RelV w' u:=this;obtain⟨fZ,r1⟩:=hd.reads I s1 rv;obtain⟨gC,r2⟩:=a3.reads I s2 ru;have hq:=eqAt_reads p.2 d A.in1 s _ _ fZ gC r1 r2 s1 s2 (by have:min p.2.depth d.depth<=p.2.depth:=Nat.min_le_left _ _;show A.units+1+_ < cLine;lia);rw[e] at hq;exact PySem.W.KeqHits.hit hva hq (PF I hu hb rb hr ra' λp' fb=>h p' (yV _ fb))
     . rw[l] at a1;cases a1
theorem cH {X:Cx}(hu:X.A.units+64 < cLine):OpR X (compareOp .Eq) (rDQ X.K false):=by
 intro pins s σ H x y v u Q I rx ry h;obtain⟨W,as,bs,h1,h2,⟨hl,hs⟩,q⟩:=h;unfold DV at h1 h2;obtain⟨a,ka,rfl,_,ha,f'⟩:=h1;obtain⟨b,kb,rfl,_,hb,gb⟩:=h2;cases rx;cases ry;obtain⟨_,za,va,ra,da⟩:=EF I.hok ha;obtain⟨_,zb,vb,rb,db⟩:=EF I.hok hb;have el:va.length=vb.length:=by have e1:=ra.length;have e2:=rb.length;have e3:=DL.F7 f';have e4:=DL.F7 gb;simp only[DL.AE,zX] at e3 e4;lia
 refine PySem.W.keq_eq (knd:=AL X.prog X.w) za zb da db (by lia) (λ_=>PF I hu gb rb f' ra hs) ?_;rw[el,beq_self_eq_true];exact⟨.bl true,H,I,rfl,q⟩
end L2
namespace DL
open PySem PySem.Spec L2
def ZX (K:Frg):R2:=λx y H Q=>JH K false x y H Q\/rDQ K false x y H Q
theorem dD {X:Cx}{K:Frg}(h:X.K=K) (hu:X.A.units+64 < cLine):OpR X (compareOp .Eq) (ZX K):=by
 subst h;intro pins s σ H x y v u Q I rx ry h;rcases h with h | h;. exact S2 hu pins s σ H x y v u Q I rx ry h
 . exact cH hu pins s σ H x y v u Q I rx ry h
section
variable {K:Frg}{M:Own}{Q:DS->Own->Prop}{ρ:List (Option DS)}{td ty:TE}
theorem ZY {x y:DS}(h:D2 K (JH K false) x y M Q):D2 K (ZX K) x y M Q:=λH v u QQ oa s1 s2 k=>.inl (h H v u QQ oa s1 s2 k)
theorem cI {as bs:List (Str×PyData)}(h:PD as bs) (q:Q (.d (.bool true)) M):D2 K (ZX K) (.d (.dict (AE as))) (.d (.dict (AE bs))) M Q:=λH v u QQ oa s1 s2 k=>
 .inr ⟨M.W,as,bs,s1,s2,h,k _ H (.d (.bool true)) M oa AI Step.refl q⟩
def isTD (M:Own) (x:DS) (ts:List (Str×PyData)):Prop:=(∃a,x = .loc a/\M a=some (.d (AE ts)))\/x = .d (.dict (AE ts))
theorem isTD.d {M:Own}{ts:List (Str×PyData)}:isTD M (.d (.dict (AE ts))) ts:=.inr rfl
theorem W6 (h:DE K ty ρ M λy M1=>DE K td ρ M1 λx M2=>∃(ts:List (Str×PyData)) (k:Str),isTD M2 x ts/\y = .d (.str k)/\Q (.d (.bool (C6 ts k).isSome)) M2):DE K (bG ty td) ρ M Q:=λσ H QQ R kk=>
 h σ H _ R λv H1 x M1 o1 s1 t1 h1=>h1 σ H1 _ (R.step o1 t1) λu H2 y M2 o2 s2 t2 h2=>by
   obtain⟨ts,k,hx,rfl,q⟩:=h2;rw[BJ s1];obtain⟨a,ks,e0,e1,e2⟩:∃a ks,u = .ref a/\Rd H2 a (.dK ks)/\DKV K H2 M2.W (AE ts) ks:=by
     rcases hx with ⟨a,rfl,m⟩ | rfl
     . unfold SI at s2;obtain⟨ks,e1,e2⟩:=o2 a _ m;exact⟨a,ks,s2,.inl e1,e2⟩
     . unfold SI DV at s2;obtain⟨a,ks,e0,nw,e1,e2⟩:=s2;exact⟨a,ks,e0,e1,e2⟩
   subst e0;refine⟨a,EL ks (a1Z k),rfl,.inl ⟨ks,a1Z k,e1,rfl,rfl⟩,kk _ H2 _ M2 o2 ?_ (t1.trans t2) q⟩;rcases DW (k:=k) e2 with ⟨d',w',a1,a2,a3⟩ | ⟨a1,a2⟩
   . rw[a1,a2];exact AI
   . rw[a1,a2];exact AI
theorem N1 {x:DS}{ts:List (Str×PyData)}(hx:isTD M x ts) (q:∀p,M p=none->Q (.loc p) (M.put p (.d (AE ts)))):DR K O7 [x] M Q:=λH vs QQ oa s k=>by
 obtain⟨v,r,rfl,h1,h2⟩:=s;cases h2;obtain⟨a,ks,e0,e1,e2⟩:∃a ks,v = .ref a/\Rd H a (.dK ks)/\DKV K H M.W (AE ts) ks:=by
   rcases hx with ⟨a,rfl,m⟩ | rfl
   . unfold SI at h1;obtain⟨ks,e1,e2⟩:=oa a _ m;exact⟨a,ks,h1,.inl e1,e2⟩
   . unfold SI DV at h1;obtain⟨a,ks,e0,nw,e1,e2⟩:=h1;exact⟨a,ks,e0,e1,e2⟩
 subst e0;refine⟨a,ks,rfl,e1,λp hp=>?_⟩;obtain⟨o1,t1⟩:=SK oa hp e2;exact k _ _ (.loc p) _ o1 rfl t1 (q p (oa.none hp))
end
end DL
namespace DL
open PySem PySem.Spec L2
section
variable {ys:List Str}{E:Eff}{g:Gt}{n:Str}{w a b:List Th}{D:Deed}
abbrev wQ (w:List Th):PyData:=.dict (AE (tsD w))
theorem D5 {ts:List Th}{x:Str}{p c:Int}(h:(ts.map (·.1)).Nodup):((BK ts x p c).map (·.1)).Nodup:=by
 unfold BK;split
 . rw[zD];have e:((λt:Th=>t.1)∘λt:Th=>if t.1=x then (t.1,p,c) else t)=λt:Th=>t.1:=by funext t;show(if t.1=x then (t.1,p,c) else t).1=t.1;split <;> rfl
   rw[e];exact h
 . rename_i q;rw[xJ,List.nodup_append];refine⟨h,by simp,λa ha b hb=>?_⟩;obtain rfl:b=x:=by simpa using hb
   rintro rfl;obtain⟨t,ht,e⟩:=zL.mp ha;exact q (List.any_eq_true.mpr ⟨t,ht,decide_eq_true e⟩)
theorem W7 (na:(a.map (·.1)).Nodup) (nb:(b.map (·.1)).Nodup) (h:∀n,AA a n=AA b n):PD (tsD a) (tsD b):=by
 have hp:a.Perm b:=by
   refine(List.perm_ext_iff_of_nodup ?_ ?_).mpr λt=>?_;. exact(List.pairwise_map.mp na).imp λ{x y} q e=>q (by rw[e])
   . exact(List.pairwise_map.mp nb).imp λ{x y} q e=>q (by rw[e])
   . rw[GB na,GB nb,h]
 refine⟨by unfold tsD;rw[zX,zX,hp.length_eq],λp fb=>?_⟩;obtain⟨t,ht,rfl⟩:=zL.mp fb;refine⟨pcD t.2.1 t.2.2,?_,rfl,rfl,Nat.le_of_ble_eq_true rfl,?_⟩;. rw[AV,<-h,(GB na).mp ht];rfl
 . exact ET (by rfl)
def EU (o:Option (List Th)):PyData:=match o with | some w=>wQ w | none=>.none
end
end DL
namespace DL
open PySem PySem.Spec L2
def J3 (w:List Th):Deed->Int×Int->Int×Int
 | .move _ p,v=>(p,v.2)
 | .count _ k,v=>(v.1,v.2+k)
 | .split _ _ _ k,v=>(v.1,v.2 + -k)
 | .join _ y,v=>(v.1,v.2+((AA w y).getD (0,0)).2)
 | _,v=>v
def Apart (D E:Deed):Prop:=∀n∈E.names,n∈D.names->AJ D.d n≠2/\AJ E.d n≠2/\(AJ D.d n=1\/AJ E.d n=1)
theorem U1 {D E:Deed}(h:B7 D.d E.d=false):Apart D E:=λn hE hD=>by rw[TK] at h;have:=List.any_eq_false.mp h n hD;unfold TJ CM at this;simp only[hE,decide_true,Bool.true_and,Bool.not_eq_true',b1Q,Bool.not_eq_false',a0W,Bool.or_eq_true,beq_iff_eq,bne_iff_ne,ne_eq,Bool.not_eq_false] at this;exact⟨this.1.2,this.2,this.1.1⟩
theorem Apart.symm {D E:Deed}(h:Apart D E):Apart E D:=λn h1 h2=>⟨(h n h2 h1).2.1,(h n h2 h1).1,(h n h2 h1).2.2.symm⟩
theorem W8 (x:Str) (p k:Int) (n:Str):AJ (Deed.put x p k).d n=2:=rfl
theorem U2 (x n:Str):AJ (Deed.take x).d n=2:=rfl
theorem EV (x:Str) (p:Int) (n:Str):AJ (Deed.move x p).d n=0:=rfl
theorem GW (x:Str) (k:Int) (n:Str):AJ (Deed.count x k).d n=if x=n then 1 else 2:=by show(if (x==n)=true then 1 else 2)=_;simp only[beq_iff_eq]
theorem U3 (x y n:Str):AJ (Deed.name x y).d n=2:=rfl
theorem F9 (x y:Str) (p k:Int) (n:Str):AJ (Deed.split x y p k).d n=if x=n then 1 else 2:=by show(if (x==n)=true then 1 else 2)=_;simp only[beq_iff_eq]
theorem CP (x y n:Str):AJ (Deed.join x y).d n=if x=n then 1 else 2:=by show(if (x==n)=true then 1 else 2)=_;simp only[beq_iff_eq]
theorem CH {w:List Th}{D:Deed}(hg:goD w D) {n:Str}(hn:n∉D.names):AA (doT w D) n=AA w n:=by rw[BY hg.2.1 hg.2.2];cases D <;> simp only[Deed.names,yX,List.not_mem_nil,or_false,not_or] at hn <;> simp[hn]
theorem GX {w:List Th}{D:Deed}(hg:goD w D) {n:Str}(hn:n∈D.names) (hu:AJ D.d n≠2):AA (doT w D) n=(AA w n).map (J3 w D):=by
 rw[BY hg.2.1 hg.2.2];cases D with
 | put x p k=>exact absurd rfl hu
 | take x=>exact absurd rfl hu
 | name x y=>exact absurd rfl hu
 | move x p=>simp only[Deed.names,List.mem_singleton] at hn;subst hn;simp only[if_pos];rfl
 | count x k=>simp only[Deed.names,List.mem_singleton] at hn;subst hn;simp only[if_pos];rfl
 | split x y p k=>
   rw[F9] at hu;have hx:x=n:=by by_cases e:x=n;exact e;rw[if_neg e] at hu;exact absurd rfl hu
   subst hx;simp only[if_neg hg.2.1.2.1,if_pos];rfl
 | join x y=>
   rw[CP] at hu;have hx:x=n:=by by_cases e:x=n;exact e;rw[if_neg e] at hu;exact absurd rfl hu
   subst hx;obtain⟨u,hy⟩:=FI hg (n:=y) (by simp[Deed.names]) (by simp[Deed.made]);simp only[if_neg hg.2.1.2.1,if_pos,hy];cases AA w x <;> simp[J3,hy]
theorem PH {w:List Th}{D:Deed}(hg:goD w D) {n:Str}(h:n∈D.names->AJ D.d n≠2):(AA (doT w D) n).isSome=(AA w n).isSome:=by
 by_cases hn:n∈D.names;. rw[GX hg hn (h hn),a9J]
 . rw[CH hg hn]
theorem N2 {w A:List Th}{E:Deed}(h:∀m∈E.names,AJ E.d m=2->AA A m=AA w m) (hr:E.real):J3 A E=J3 w E:=by
 funext v;cases E with
 | join x y=>simp only[J3];rw[h y (by simp[Deed.names]) (by rw[CP,if_neg hr.2.1])]
 | _=>rfl
theorem PJ {w A:List Th}{E:Deed}(h1:goD w E) (h2:goD A E) (h:∀m∈E.names,AJ E.d m=2->AA A m=AA w m) {n:Str}(hn:AA A n=AA w n):AA (doT A E) n=AA (doT w E) n:=by
 rw[BY h1.2.1 h1.2.2,BY h2.2.1 h2.2.2];cases E with
 | put x p k=>dsimp only;rw[hn]
 | take x=>dsimp only;rw[hn]
 | move x p=>
   dsimp only;by_cases e:n=x;. subst e;rw[hn]
   . rw[if_neg e,if_neg e,hn]
 | count x k=>
   dsimp only;by_cases e:n=x;. subst e;rw[hn]
   . rw[if_neg e,if_neg e,hn]
 | name x y=>dsimp only;rw[h x (by simp[Deed.names]) rfl,hn]
 | split x y p k=>
   dsimp only;by_cases e:n=x;. subst e;rw[hn]
   . rw[if_neg e,if_neg e,hn]
 | join x y=>
   dsimp only;rw[h y (by simp[Deed.names]) (by rw[CP,if_neg h1.2.1.2.1])];by_cases e:n=x;. subst e;rw[hn]
   . rw[if_neg e,if_neg e,hn]
theorem W9 {w:List Th}{D:Deed}{n:Str}(hn:n∈D.names) (h:AJ D.d n=1) (v:Int×Int):(J3 w D v).1=v.1:=by
 cases D with
 | move x p=>rw[EV] at h;cases h
 | _=>rfl
theorem U4 {w:List Th}{D E:Deed}{n:Str}(h:AJ D.d n=1\/AJ E.d n=1) (v:Int×Int):J3 w E (J3 w D v)=J3 w D (J3 w E v):=by
 cases D <;> cases E <;> first
   | rfl
   | (refine Prod.ext rfl ?_;simp only[J3];lia)
   | (exfalso;rw[EV,EV] at h;lia)
theorem KB {w:List Th}{D E:Deed}(hD:goD w D) (hE:goD w E) (ha:Apart D E) {A:List Th}(hA:∀n,AA A n=AA (doT w D) n):AD A E=AD w E:=by
 have iR:∀m∈E.names,AJ E.d m=2->AA A m=AA w m:=λm hm hu=>by rw[hA,CH hD λh=>(ha m hm h).2.1 hu]
 cases E with
 | take x=>simp only[AD];rw[iR x (by simp[Deed.names]) rfl]
 | join x y=>simp only[AD];rw[iR y (by simp[Deed.names]) (by rw[CP,if_neg hE.2.1.2.1])]
 | move x p=>
   obtain⟨v,hv⟩:=FI hE (n:=x) (by simp[Deed.names]) (by simp[Deed.made]);by_cases hx:x∈D.names
   . have q:=ha x (by simp[Deed.names]) hx;have q1:AJ D.d x=1:=q.2.2.elim id λz=>by rw[EV] at z;cases z
     have:=hA x;rw[GX hD hx q.1,hv] at this;simp only[AD,this,hv,a7V,W9 hx q1]
   . have:=hA x;rw[CH hD hx] at this;simp only[AD,this]
 | _=>rfl
theorem PK {w A:List Th}{E:Deed}(hc:TN A) (hE:goD w E) (h:∀n∈E.names,(AA A n).isSome=(AA w n).isSome):goD A E:=⟨hc,hE.2.1,N0 λn hn=>by rw[C7,h n hn,<-C7];exact B8 hE.2.2 n hn⟩
theorem O9 {w A B:List Th}{D E:Deed}(hD:goD w D) (hE:goD w E) (dS:goD A E) (dU:goD B D) (ha:Apart D E) (hA:∀n,AA A n=AA (doT w D) n) (hB:∀n,AA B n=AA (doT w E) n) (n:Str):AA (doT A E) n=AA (doT B D) n:=by
 have gd:∀m∈E.names,AJ E.d m=2->AA A m=AA w m:=λm hm hu=>by rw[hA,CH hD λh=>(ha m hm h).2.1 hu]
 have gf:∀m∈D.names,AJ D.d m=2->AA B m=AA w m:=λm hm hu=>by rw[hB,CH hE λh=>(ha m h hm).1 hu]
 by_cases h1:n∈D.names
 . by_cases h2:n∈E.names;. have q:=ha n h2 h1;rw[GX dS h2 q.2.1,GX dU h1 q.1,hA,hB,GX hD h1 q.1,GX hE h2 q.2.1,N2 gd hE.2.1,N2 gf hD.2.1,Option.map_map,Option.map_map];congr 1;funext v;exact U4 q.2.2 v
   . rw[CH dS h2,hA];exact(PJ hD dU gf (by rw[hB,CH hE h2])).symm
 . rw[CH dU h1,hB];exact PJ hE dS gd (by rw[hA,CH hD h1])
end DL
namespace L2
open PySem PySem.Spec PyProof.Rows PySem.SeqAt PySem.W
open AutoSeq1 (wpAny_loadPart')
mutual
def AW:PyData->PyData->Option Bool
 | .int a,.int b=>some (decide (a < b))
 | .str a,.str b=>some (decide (a.cps.toList < b.cps.toList))
 | .tuple xs,.tuple ys=>lessL xs ys
 | _,_=>none
def lessL:List PyData->List PyData->Option Bool
 | [],[]=>some false
 | [],_::_=>some true
 | _::_,[]=>some false
 | x::xs,y::ys=>if a0V x y=true then lessL xs ys else AW x y
end
def LtAt (A:Around) (s:Shared) (x y:Value) (b:Bool):Prop:=∀(prog:Program) (w:World) (E:Value->Shared->Prop) (Q:Value->Shared->Prop),Q (.bool b) s->wpAny (model prog w) A (richCompare .Lt x y) Q E s
def FM (A:Around) (s:Shared) (fin r:Bool):List (Value×Value)->Prop
 | []=>r=fin
 | (x,y)::l=>(EqAt A s x y true/\FM A s fin r l)\/(EqAt A s x y false/\LtAt A s x y r)
theorem QW (l b:Addr) (xs ys:Array Value) (n m:Nat) (d1 d2:Option Addr) (s1 s2:Array (Option Value)) (r:Bool) :
   Meets (Builtin.«tuple.__lt__» ⟨[.ref l,.ref b],[]⟩) (λA R s=>s.heap.get? l=some { cls:=.type "tuple", dict:=d1,data:=.seq xs n,slots:=s1 }/\s.heap.get? b=some { cls:=.type "tuple", dict:=d2,data:=.seq ys m,slots:=s2 } /\
       FM A.in1 s (decide (xs.size < ys.size)) r (xs.toList.zip ys.toList)/\R (.ok (.ret (.bool r))) s):=
 .of_wp λprog w A R s h=>by
   obtain⟨hp,g,d,tk,os⟩:=s;obtain⟨h1,h2,hx,hR⟩:=h;have sub:=AutoSeq1.sub_tuple_tuple
   wp_walk using wpAny_loadPart' h1,wpAny_loadPart' h2,wpAny_forIn_list _ (λrest c s'=>c.1=none/\s'=⟨hp,g,d,tk,os⟩/\FM A.in1 ⟨hp,g,d,tk,os⟩ (decide (xs.size < ys.size)) r rest) _
   case turn=>
     rintro⟨x,y⟩ rest c s' ⟨hc,rfl,hl⟩;rcases hl with ⟨he,hl⟩ | ⟨he,hl⟩
     . refine zZ (he prog w _ _ ?_)
       wp_walk
       exact⟨rfl,rfl,hl⟩
     . refine zZ (he prog w _ _ ?_);refine(show wpAny _ _ (rule _ >>= _) _ _ _ from zZ (wpAny_rule (zZ (hl prog w _ _ ?_))))
       wp_walk
       exact⟨_,rfl,hR⟩
   case fin=>
     rintro⟨c1,c2⟩ s' ⟨hc,rfl,hl⟩;simp only at hc;subst hc;have hl:r=decide (xs.size < ys.size):=hl;subst hl
     wp_walk
     exact⟨_,rfl,by simpa [Builtin.Tuple.tupleCompareSizes] using hR⟩
   case h=>exact⟨rfl,rfl,hx⟩
theorem LtAt.tuples {A:Around}{s:Shared}{l b:Addr}{xs ys:Array Value}{r:Bool}(hl:s.heap.IsTuple l xs) (hb:s.heap.IsTuple b ys) (hu:A.units < cLine) (hx:FM A.in1 s (decide (xs.size < ys.size)) r (xs.toList.zip ys.toList)):LtAt A s (.ref l) (.ref b) r:=λprog w E Q h=>by obtain⟨⟨c1,d1,t1,s1⟩,h1,e1,n,f1⟩:=id hl;obtain⟨⟨c2,d2,t2,s2⟩,h2,e2,m,f2⟩:=id hb;simp only at e1 f1 e2 f2;subst e1 f1 e2 f2;exact richCompare_meets_room (op:=.Lt) ⟨_,h1,rfl⟩ ⟨_,h2,rfl⟩ F.slot_tuple_lt F.entry_tuple_lt (F.args_tuple_lt_2 _ _) (QW l b xs ys n m d1 d2 s1 s2 r) ⟨h1,h2,hx,show Value.bool r≠Value.notImplemented/\Q (.bool r) s from ⟨(λz=>nomatch z),h⟩⟩ hu
mutual
theorem QX:∀(x y:PyData) (A:Around) (s:Shared) (a b:Value) (as bs:List Addr) (r:Bool),Reads s.heap a x as->Reads s.heap b y bs->x.canLay0=true->y.canLay0=true->A.units+min x.depth y.depth < cLine->AW x y=some r->LtAt A s a b r
 | .int x,.int y,A,s,a,b,_,_,r,ra,rb,_,_,_,h=>by cases ra;cases rb;simp only[AW,Option.some.injEq] at h;subst h;exact λprog w E Q q=>PyProof.Rows.lt_int q
 | .str x,.str y,A,s,a,b,_,_,r,ra,rb,_,_,_,h=>by cases ra;cases rb;simp only[AW,Option.some.injEq] at h;subst h;exact λprog w E Q q=>PyProof.Rows.lt_str q
 | .tuple xs,.tuple ys,A,s,a,b,_,_,r,ra,rb,c1,c2,hu,h=>by
   cases ra with
   | @tuple l o vs n _ fZ h1 h2 h3 h4=>
     cases rb with
     | @tuple l2 o2 vs2 n2 _ bs1 k1 k2 k3 k4=>
       refine LtAt.tuples ⟨_,h1,h2,_,h3⟩ ⟨_,k1,k2,_,k3⟩ (room_here hu) ?_;have e1:vs.size=xs.length:=by simpa using ReadsAll.length _ _ _ h4
       have e2:vs2.size=ys.length:=by simpa using ReadsAll.length _ _ _ k4
       rw[e1,e2];exact ltA_all xs ys A.in1 s vs.toList vs2.toList _ _ r h4 k4 c1 c2 (room_in hu) (by simpa only [AW] using h)
 | .none,_,_,_,_,_,_,_,_,_,_,_,_,_,h=>by simp[AW] at h
 | .bool _,_,_,_,_,_,_,_,_,_,_,_,_,_,h=>by simp[AW] at h
 | .list _,_,_,_,_,_,_,_,_,_,_,_,_,_,h=>by simp[AW] at h
 | .dict _,_,_,_,_,_,_,_,_,_,_,_,_,_,h=>by simp[AW] at h
 | .int _,.none,_,_,_,_,_,_,_,_,_,_,_,_,h=>by simp[AW] at h
 | .int _,.bool _,_,_,_,_,_,_,_,_,_,_,_,_,h=>by simp[AW] at h
 | .int _,.str _,_,_,_,_,_,_,_,_,_,_,_,_,h=>by simp[AW] at h
 | .int _,.list _,_,_,_,_,_,_,_,_,_,_,_,_,h=>by simp[AW] at h
 | .int _,.tuple _,_,_,_,_,_,_,_,_,_,_,_,_,h=>by simp[AW] at h
 | .int _,.dict _,_,_,_,_,_,_,_,_,_,_,_,_,h=>by simp[AW] at h
 | .str _,.none,_,_,_,_,_,_,_,_,_,_,_,_,h=>by simp[AW] at h
 | .str _,.bool _,_,_,_,_,_,_,_,_,_,_,_,_,h=>by simp[AW] at h
 | .str _,.int _,_,_,_,_,_,_,_,_,_,_,_,_,h=>by simp[AW] at h
 | .str _,.list _,_,_,_,_,_,_,_,_,_,_,_,_,h=>by simp[AW] at h
 | .str _,.tuple _,_,_,_,_,_,_,_,_,_,_,_,_,h=>by simp[AW] at h
 | .str _,.dict _,_,_,_,_,_,_,_,_,_,_,_,_,h=>by simp[AW] at h
 | .tuple _,.none,_,_,_,_,_,_,_,_,_,_,_,_,h=>by simp[AW] at h
 | .tuple _,.bool _,_,_,_,_,_,_,_,_,_,_,_,_,h=>by simp[AW] at h
 | .tuple _,.int _,_,_,_,_,_,_,_,_,_,_,_,_,h=>by simp[AW] at h
 | .tuple _,.str _,_,_,_,_,_,_,_,_,_,_,_,_,h=>by simp[AW] at h
 | .tuple _,.list _,_,_,_,_,_,_,_,_,_,_,_,_,h=>by simp[AW] at h
 | .tuple _,.dict _,_,_,_,_,_,_,_,_,_,_,_,_,h=>by simp[AW] at h
theorem ltA_all:∀(xs ys:List PyData) (A:Around) (s:Shared) (vs us:List Value) (as bs:List Addr) (r:Bool),ReadsAll s.heap vs xs as->ReadsAll s.heap us ys bs->a0K xs=true->a0K ys=true->A.units+min (a1V xs) (a1V ys) < cLine->lessL xs ys=some r->FM A s (decide (xs.length < ys.length)) r (vs.zip us)
 | [],[],A,s,vs,us,_,_,r,ra,rb,_,_,_,h=>by cases ra;cases rb;simp only[lessL,Option.some.injEq] at h;subst h;exact rfl
 | [],y::ys,A,s,vs,us,_,_,r,ra,rb,_,_,_,h=>by cases ra;simp only[lessL,Option.some.injEq] at h;subst h;exact(by simp[FM])
 | x::xs,[],A,s,vs,us,_,_,r,ra,rb,_,_,_,h=>by cases rb;simp only[lessL,Option.some.injEq] at h;subst h;rw[List.zip_nil_right];exact(by simp[FM])
 | x::xs,y::ys,A,s,_,_,_,_,r,ra,rb,c1,c2,hu,h=>by
   have c1:x.canLay0=true/\a0K xs=true:=by simpa [a0K] using c1
   have c2:y.canLay0=true/\a0K ys=true:=by simpa [a0K] using c2
   cases ra with
   | cons q qs=>
     cases rb with
     | cons q' qs'=>
       have he:=eqAt_reads x y A s _ _ _ _ q q' c1.1 c2.1 (room_head hu);rw[lessL] at h;rw[List.zip_cons_cons];cases hc:a0V x y with
       | true=> rw[hc] at he h;rw[if_pos rfl] at h;refine .inl ⟨he,?_⟩;have:=ltA_all xs ys A s _ _ _ _ r qs qs' c1.2 c2.2 (room_tail hu) h;simpa using this
       | false=> rw[hc] at he h;rw[if_neg nft] at h;exact .inr ⟨he,QX x y A s _ _ _ _ r q q' c1.1 c2.1 (room_head hu) h⟩
end
theorem PL {prog:Program}{w:World}{A:Around}{fin r:Bool}{Q:Bool->Shared->Prop}{s:Shared}(hQ:Q r s):∀(l:List (Value×Value)) (i:Nat),FM A s fin r l->KatLex prog w A false fin Q l i s
 | [],i,h=>by cases h;exact kat_nil hQ
 | (x,y)::l,i,h=>by
   refine kat_cons ?_;rcases h with ⟨h1,h2⟩ | ⟨h1,h2⟩
   . exact h1 prog w _ _ (kat_yes (PL hQ l (i+1) h2))
   . refine h1 prog w _ _ (kat_no ?_);rw[Bool.false_and];exact kat_one _ _ (h2 prog w _ _ hQ)
end L2
namespace L2
open PySem PySem.Spec PyProof.Rows PySem.SeqAt PySem.W
theorem WA:kas_sort 2 = .ask 1 0 λc=>if c=true then .ret #[1,0] else .ret #[0,1]:=by show KasT.ask 1 0 _=KasT.ask 1 0 _;congr 1;funext c;cases c <;> rfl
section
variable {prog:Program}{w:World}{A:Around}{E:Value->Shared->Prop}{s:Shared}
theorem OB {a p1 p2 f1 f2:Addr}{n k1 k2:Nat}{o1 o2 g1 g2:Obj}{xs ys:Array Value}{r:Bool}{P:PySem.Fin->Shared->Prop}(ho:s.heap.get? a=some (seqObj "list" [a0X p1,.ref p2].toArray n)) (h1:s.heap.get? p1=some o1) (c1:o1.cls = .type "tuple") (d1:o1.data = .seq xs k1) (x1:xs[0]?=some (.ref f1)) (q1:s.heap.get? f1=some g1) (t1:g1.cls = .type "tuple") (h2:s.heap.get? p2=some o2) (c2:o2.cls = .type "tuple") (d2:o2.data = .seq ys k2) (x2:ys[0]?=some (.ref f2)) (q2:s.heap.get? f2=some g2) (t2:g2.cls = .type "tuple") (bi:∀h',(∀b o,b≠a->s.heap.get? b=some o->h'.get? b=some o)->FM A { s with heap:=h' } (decide (ys.size < xs.size)) r (ys.toList.zip xs.toList)) (h:P (.done (.ret .none)) { s with heap:=sortedHeap s.heap a [a0X p1,.ref p2] (if r=true then [a0X p2,.ref p1] else [a0X p1,.ref p2]).toArray }) :
   wpAny (model prog w) A (Builtin.«list.sort» ⟨[.ref a],[]⟩) P E s:=by
 have na:∀{b o},s.heap.get? b=some o->o.cls = .type "tuple" -> b≠a:=λ{b o} q hc e=>by subst e;rw[ho] at q;cases q;exact absurd hc (show ¬(Value.type "list"=Value.type "tuple") by decide)
 rw[list_sort_plain];refine zZ (listItems_at ho rfl ?_);refine zZ (listUpdate_at ho rfl ?_ (by show 2<=_;rw[sizeLine_eq];lia) (xU _));obtain⟨e1,fg⟩:∃e1,(s.heap.update a (a6K λ_=>(#[]:Array Value))).get? a=some (seqObj "list" #[] e1):=⟨_,get?_update_seq ho (λ_=>#[])⟩
 refine zZ (seqEpoch_at fg rfl (zZ (wpAny_newTuple ?_ (by show 2<=_;rw[sizeLine_eq];lia))));refine zZ (wpAny_newList (wpAny_holding ?_) (xU _));generalize hH:((s.heap.update a (a6K λ_=>(#[]:Array Value))).push (seqObj "tuple" [a0X p1,.ref p2].toArray 0)).push (seqObj "list" #[] 0)=H1;have kp:∀b o,b≠a->s.heap.get? b=some o->H1.get? b=some o:=λb o hb q=>by rw[<-hH];refine zW _ (zW _ ?_);rw[Heap.get?_update_ne _ _ _ _ hb];exact q
 have eB:H1.get? a=some (seqObj "list" #[] e1):=by rw[<-hH];exact zW _ (zW _ fg)
 show wpAny (model prog w) A _ P E { s with heap:=H1 };dsimp only;rw[if_neg (by show ¬(2 < 2);lia),if_neg (by show ¬(2 < 2);lia)];have j1:=kp _ _ (na h1 c1) h1;have j2:=kp _ _ (na h2 c2) h2;have m1:=kp _ _ (na q1 t1) q1;have m2:=kp _ _ (na q2 t2) q2;have hf:∀v∈[a0X f1,a0X f2],Looks (model prog w) H1 (typeOf v) (.type "tuple"):=λv hv=>by
   rcases yX.mp hv with rfl | hv;. rw[<-t1];exact(Looks.ld m1).andThen .now
   . rw[List.mem_singleton.mp hv,<-t2];exact(Looks.ld m2).andThen .now
 refine zZ (kat_kind (s:={ s with heap:=H1 }) (T:=.type "tuple") (KatTups.cons j1 c1 d1 x1 (KatTups.cons j2 c2 d2 x2 .nil)) (by show 0 < 2;lia) hf rfl ?_);refine zZ (wpAny_mono (kat_run (s:={ s with heap:=H1 }) (vs:=[a0X p1,.ref p2]) (ks:=[a0X p1,.ref p2]) (G:=λp s'=>s'={ s with heap:=H1 }/\p=if r=true then #[1,0] else #[0,1]) (Q:=λcg s'=>s'={ s with heap:=H1 }/\failedOf cg=none/\(arrOf cg).map (·.2)=(if r=true then [a0X p2,.ref p1] else [a0X p1,.ref p2]).toArray) rfl (zR 2) (by show 2 < 64;lia)
   (λp cg s' a1 a2 a3 a4=>⟨a4.1,a3,?_⟩) ?_) ?_ λ_ _ e=>e)
 . rw[kat_snds rfl a2,a4.2];cases r <;> rfl
 . show(kas_sort 2).kasWp _ _ _;rw[WA];show kas_ask prog w A _ [a0X p1,.ref p2] 1 0 _ { s with heap:=H1 };unfold kas_ask;refine kat_lt (s:={ s with heap:=H1 }) j2 d2 j1 d1 ?_;refine PL ?_ _ 0 (bi H1 kp);cases r <;> exact⟨rfl,rfl⟩
 . rintro⟨⟨⟩,cg⟩ s' ⟨rfl,kj,hm⟩;dsimp only;refine zZ (seqEpoch_at eB rfl ?_);rw[hm];refine zZ (listUpdate_at eB rfl ?_ (xU _) (by rw[sizeLine_eq];cases r <;> (show 2<=_;lia)));rw[kj];simp only[bne_self_eq_false,Bool.false_eq_true,if_false];refine zY ?_;unfold sortedHeap at h;rw[hH] at h;exact h
theorem WB {l p1 p2 f1 f2:Addr}{k1 k2:Nat}{o1 o2 g1 g2:Obj}{xs ys:Array Value}{r:Bool}{Q:Value->Shared->Prop}(hl:s.heap.IsList l [a0X p1,.ref p2].toArray) (h1:s.heap.get? p1=some o1) (c1:o1.cls = .type "tuple") (d1:o1.data = .seq xs k1) (x1:xs[0]?=some (.ref f1)) (q1:s.heap.get? f1=some g1) (t1:g1.cls = .type "tuple") (h2:s.heap.get? p2=some o2) (c2:o2.cls = .type "tuple") (d2:o2.data = .seq ys k2) (x2:ys[0]?=some (.ref f2)) (q2:s.heap.get? f2=some g2) (t2:g2.cls = .type "tuple") (bi:∀B h',B.units<=A.units+2->(∀b o,s.heap.get? b=some o->h'.get? b=some o)->FM B { s with heap:=h' } (decide (ys.size < xs.size)) r (ys.toList.zip xs.toList)) (h:Q (.ref (s.heap.objs.size+1)) { s with heap:=sortedAll s.heap [a0X p1,.ref p2] (if r=true then [a0X p2,.ref p1] else [a0X p1,.ref p2]).toArray }) :
   wpAny (model prog w) A (call (.builtin "sorted") [.ref l]) Q E s:=by
 refine Calls.call_function_entry kind_sorted plain_sorted entry_sorted (args_sorted1 _) ?_;unfold Builtin.«sorted»;refine zZ (m:=checkCount "sorted" 1 1 _) (zY (zZ (MR (.inl hl) (zZ (wpAny_newList ?_ (by show 2<=_;rw[sizeLine_eq];lia))) (by show 2<=_;rw[sizeLine_eq];lia))));generalize hH:(s.heap.push (seqObj "list" #[] 0)).update s.heap.objs.size (a6K (·++[a0X p1,.ref p2].toArray))=H1;have hsz:H1.objs.size=s.heap.objs.size+1:=by rw[<-hH,Heap.size_update,size_push']
 have old:∀b o,s.heap.get? b=some o->(H1.push (seqObj "list" [a0X p1,.ref p2].toArray 0)).get? b=some o:=λb o q=>by refine zW _ ?_;rw[<-hH,Heap.get?_update_ne _ _ _ _ (zC (zM q))];exact zW _ q
 have gx:(H1.push (seqObj "list" [a0X p1,.ref p2].toArray 0)).get? (s.heap.objs.size+1)=some (seqObj "list" [a0X p1,.ref p2].toArray 0):=by rw[<-hsz];exact yZ _ rfl
 have nl:∀{b o},s.heap.get? b=some o->b≠s.heap.objs.size+1:=λq=>zC (Nat.lt_succ_of_lt (zM q));show wpAny _ _ _ _ _ { s with heap:=H1.push (seqObj "list" [a0X p1,.ref p2].toArray 0) };rw[hsz];refine zZ (wpAny_holding (wpAny_call_entry slot_list_sort ⟨_,gx,rfl⟩ entry_list_sort (OB (r:=r) gx (old _ _ h1) c1 d1 x1 (old _ _ q1) t1 (old _ _ h2) c2 d2 x2 (old _ _ q2) t2 (λh' kp=>bi _ h' ?_ λb o q=>kp b o (nl q) (old b o q)) ⟨_,rfl,?_⟩) (args_list_sort _)));. exact zR _
 . unfold sortedAll at h;rw[hH] at h;exact zY ⟨_,rfl,h⟩
end
section
variable {X:Cx}
abbrev prD (a:List PyData) (b:PyData):PyData:=.tuple [.tuple a,b]
def OC (K:Frg):List V->Hp->VK->Prop:=λxs H Q=>∃(W:Addr->Prop) (p:Addr) (a1 a2:List PyData) (b1 b2:PyData) (r:Bool),xs=[.ref p]/\DV K H W (.list [prD a1 b1,prD a2 b2]) (.ref p)/\(prD a1 b1).canLay0=true/\(prD a2 b2).canLay0=true/\(prD a1 b1).depth<=8/\lessL [.tuple a2,b2] [.tuple a1,b1]=some r /\∀(v1 v2:V) (q:Addr),DV K H W (prD a1 b1) v1->DV K H W (prD a2 b2) v2->H q=none->Q (.ref q) (upd H q (.lst (if r=true then [v2,v1] else [v1,v2])))
theorem OD (hu:X.A.units+64 < cLine):B4 X (.builtin "sorted") (OC X.K):=by
 intro pins s σ H xs us Q I r h;obtain⟨W,p,a1,a2,b1,b2,t,rfl,hd,c1,c2,gD,bi,q⟩:=h;obtain⟨u,rfl,ru⟩:=FZ r;cases ru;unfold DV at hd;obtain⟨p',vs,e0,hl,hv⟩:=hd;cases e0;unfold DVs at hv;obtain⟨v1,vr,rfl,f7,hv⟩:=hv;unfold DVs at hv;obtain⟨v2,vr,rfl,gh,hv⟩:=hv;unfold DVs at hv;subst hv;obtain⟨aa,rv,pl,_⟩:=I.list hl.sq;cases rv with
 | cons r1 rv=>
   cases rv with
   | cons r2 rv=>
     cases rv;rename_i w1 w2;obtain⟨fZ,kl⟩:=f7.reads I c1 r1;obtain⟨gC,km⟩:=gh.reads I c2 r2;cases kl with
     | @tuple l1 o1 x1 n1 _ _ g1 g2 g3 g4=>
       cases km with
       | @tuple l2 o2 x2 n2 _ _ k1 k2 k3 k4=>
         have gg:=g4;have kk:=k4;have z1:x1.size=2:=by simpa using ReadsAll.length _ _ _ g4
         have z2:x2.size=2:=by simpa using ReadsAll.length _ _ _ k4
         generalize e1:x1.toList=t1 at g4;generalize e2:x2.toList=t2 at k4;cases g4 with
         | cons y1 _=>
           cases y1 with
           | @tuple f1 p1 _ _ _ _ i1 i2 i3 i4=>
             cases k4 with
             | cons y2 _=>
               cases y2 with
               | @tuple f2 p2 _ _ _ _ j1 j2 j3 j4=>
                 obtain⟨e,he⟩:=sortedAll_at s.heap [a0X l1,.ref l2] (if t=true then [a0X l2,.ref l1] else [a0X l1,.ref l2]).toArray;refine WB (r:=t) pl.isList g1 g2 g3 (by rw[<-Array.getElem?_toList,e1];rfl) i1 i2 k1 k2 k3 (by rw[<-Array.getElem?_toList,e2];rfl) j1 j2 (λB h' hB kp=>?_) ?_;. have d1:a0K [.tuple a1,b1]=true:=c1;have d2:a0K [.tuple a2,b2]=true:=c2;have gD:a1V [.tuple a1,b1]+1<=8:=gD;have:=ltA_all [.tuple a2,b2] [.tuple a1,b1] B { s with heap:=h' } x2.toList x1.toList _ _ t (ReadsAll.keeps kp kk) (ReadsAll.keeps kp gg) d2 d1 (by have:min (a1V [.tuple a2,b2]) (a1V [.tuple a1,b1])<=a1V [.tuple a1,b1]:=Nat.min_le_right _ _;lia) bi;rw[z1,z2];exact this
                 . refine⟨.ref (s.heap.objs.size+1),_,I.laid (t':=s.toks) (o:=.lst (if t=true then [v2,v1] else [v1,v2])) (λb o eb=>sortedAll_old eb) (Nat.le_succ _) ?_,rfl,q v1 v2 _ f7 gh (I.hok.fresh (Nat.le_succ _))⟩;refine⟨by cases t <;> (show 2<=_;decide),if t=true then [a0X l2,.ref l1] else [a0X l1,.ref l2],e,?_,by simpa [seqObj] using he⟩;cases t;. exact .cons r1 (.cons r2 .nil)
                   . exact .cons r2 (.cons r1 .nil)
end
end L2
namespace DL
open PySem PySem.Spec L2
theorem ZZ {X:Cx}{K:Frg}(h:X.K=K) (hu:X.A.units+64 < cLine):B4 X (.builtin "sorted") (OC K):=by subst h;exact OD hu
section
variable {K:Frg}{M:Own}{Q:DS->Own->Prop}
theorem U5 {a1 a2:List PyData}{b1 b2:PyData}{r:Bool}(c1:(prD a1 b1).canLay0=true) (c2:(prD a2 b2).canLay0=true) (gD:(prD a1 b1).depth<=8) (bi:lessL [.tuple a2,b2] [.tuple a1,b1]=some r) (q:Q (.d (.list (if r=true then [prD a2 b2,prD a1 b1] else [prD a1 b1,prD a2 b2]))) M):DR K (OC K) [.d (.list [prD a1 b1,prD a2 b2])] M Q:=λH vs QQ oa s k=>by
 obtain⟨v,rr,rfl,h1,h2⟩:=s;cases h2;obtain⟨p,rfl⟩:∃p,v = .ref p:=by have gA:=h1;unfold SI DV at gA;obtain⟨p,_,e,_⟩:=gA;exact⟨p,e⟩
 refine⟨M.W,p,a1,a2,b1,b2,r,rfl,h1,c1,c2,gD,bi,λv1 v2 a f7 gh ha=>?_⟩;have g:Grow K M.W M.W H (upd H a (.lst (if r=true then [v2,v1] else [v1,v2]))):=BD _ ha;refine k _ _ (.d (.list (if r=true then [prD a2 b2,prD a1 b1] else [prD a1 b1,prD a2 b2]))) M (oa.new ha) ?_ ⟨g⟩ q;unfold SI DV;refine⟨a,_,rfl,.inl ⟨λw=>w (oa.none ha),.inl AN⟩,?_⟩;cases r;. exact⟨_,_,rfl,DV.grow g f7,_,_,rfl,DV.grow g gh,rfl⟩
 . exact⟨_,_,rfl,DV.grow g gh,_,_,rfl,DV.grow g f7,rfl⟩
end
end DL
namespace L2
open PySem PySem.Spec PyProof.Rows PySem.SeqAt
def N3 (as bs:List (Str×PyData)):Bool:=as.all λp=>match DL.C6 bs p.1 with | some d=>a0V p.2 d | none=>false
def N4 (as bs:List (Str×PyData)):Bool:=as.length==bs.length&&N3 as bs
def OE (as:List (Str×PyData)):Prop:=∀p∈as,p.2.canLay0=true/\p.2.depth<=8
theorem U6 {bs:List (Str×PyData)}{k:Str}{d:PyData}(h:DL.C6 bs k=some d):∃p∈bs,p.2=d:=by
 induction bs with
 | nil=>cases h
 | cons p r ih=>
   unfold DL.C6 at h;split at h;. exact⟨p,a1X ..,Option.some.inj h⟩
   . obtain⟨q,h1,h2⟩:=ih h;exact⟨q,yV _ h1,h2⟩
theorem N5 {X:Cx}{A:Around}{pins:List (Addr×Obj)}{σ:St}{H:Hp}{s:Shared}{W:Addr->Prop}(I:Inv X pins σ H s) (hu:A.units+64 < cLine) {bs:List (Str×PyData)}{kb:List (Key×V)}{vb:List (Key×Value)}(hb:DKV X.K H W (DL.AE bs) kb) (rb:KV kb vb) (ob:OE bs) : ∀{as:List (Str×PyData)}{ka:List (Key×V)}{va:List (Key×Value)},DKV X.K H W (DL.AE as) ka->KV ka va->OE as->PySem.W.KeqHits A.in1 s vb va (N3 as bs)
 | [],ka,va,ha,ra,h=>by have ha:DKV X.K H W [] ka:=ha;unfold DKV at ha;subst ha;cases ra;exact .nil
 | p::r,ka,va,ha,ra,h=>by
   have ha:DKV X.K H W ((a0Z p.1,p.2)::DL.AE r) ka:=ha;unfold DKV at ha;obtain⟨k',v,ks,rfl,ek,hd,hr⟩:=ha;cases ra with
   | cons q ra'=>
     rename_i y ys;obtain⟨e1,rv⟩:=q;obtain⟨s1,d8⟩:=h p (a1X ..);obtain rfl:k'=a1Z p.1:=by
       cases k' with
       | inl i=>cases ek
       | inr z=>cases ek;rfl
     obtain⟨y1,y2⟩:=y;simp only at e1 rv;subst e1;have hv:=rb.val (a1Z p.1);unfold N3;rw[List.all_cons];rcases DL.DW (k:=p.1) hb with ⟨d,w',a1,a2,a3⟩ | ⟨a1,a2⟩
     . rw[a2] at hv;rw[a1];generalize hva:valueAt vb (a1Z p.1)=o at hv;cases o with
       | none=>cases hv
       | some u=> have ru:RelV w' u:=hv;obtain⟨p2,m2,rfl⟩:=U6 a1;have s2:=(ob p2 m2).1;obtain⟨fZ,r1⟩:=hd.reads I s1 rv;obtain⟨gC,r2⟩:=a3.reads I s2 ru;exact PySem.W.KeqHits.hit hva (eqAt_reads p.2 p2.2 A.in1 s _ _ fZ gC r1 r2 s1 s2 (by have:min p.2.depth p2.2.depth<=p.2.depth:=Nat.min_le_left _ _;show A.units+1+_ < cLine;lia)) (N5 I hu hb rb ob hr ra' λp' fb=>h p' (yV _ fb))
     . rw[a2] at hv;rw[a1];generalize hva:valueAt vb (a1Z p.1)=o at hv;cases o with
       | none=>exact PySem.W.KeqHits.miss hva
       | some u=>cases hv
def rDG (K:Frg):R2:=λx y H Q=>∃(W:Addr->Prop) (as bs:List (Str×PyData)),DV K H W (.dict (DL.AE as)) x/\DV K H W (.dict (DL.AE bs)) y/\OE as/\OE bs/\Q (.bl (!N4 as bs)) H
theorem cJ {X:Cx}(hu:X.A.units+64 < cLine):OpR X (compareOp .NotEq) (rDG X.K):=by
 intro pins s σ H x y v u Q I rx ry h;obtain⟨W,as,bs,h1,h2,oa,ob,q⟩:=h;unfold DV at h1 h2;obtain⟨a,ka,rfl,_,ha,f'⟩:=h1;obtain⟨b,kb,rfl,_,hb,gb⟩:=h2;cases rx;cases ry;obtain⟨_,za,va,ra,da⟩:=EF I.hok ha;obtain⟨_,zb,vb,rb,db⟩:=EF I.hok hb;have e1:va.length=as.length:=by have e1:=ra.length;have e3:=DL.F7 f';simp only[DL.AE,zX] at e3;lia
 have e2:vb.length=bs.length:=by have e1:=rb.length;have e3:=DL.F7 gb;simp only[DL.AE,zX] at e3;lia
 refine PySem.W.keq_ne (knd:=AL X.prog X.w) za zb da db (by lia) (λ_=>N5 I hu gb rb ob f' ra oa) ?_;rw[e1,e2];exact⟨.bl (!N4 as bs),H,I,rfl,q⟩
theorem GC {P:Program}{w:World}{A:Around}{E:Value->Shared->Prop}{s:Shared}{l:Addr}{Q:Value->Shared->Prop}(ht:s.TypeIs (.ref l) "dict") (hq:Q .notImplemented s) :
   wpAny (model P w) A (call (.builtin "dict.__ne__") [.ref l,.none]) Q E s:=by refine wpAny_call_entry PySem.F.slot_dict_ne ht PySem.F.entry_dict_ne ?_ (PySem.F.args_dict_ne_2 _ _);show wpAny _ _ (Builtin.Dict.dictSlotArgs "__ne__" ⟨[.ref l,.none],[]⟩ >>= _) _ _ s;refine zZ ?_;unfold Builtin.Dict.dictSlotArgs;refine zZ (wpAny_notOrdered_dict ht ?_);show wpAny _ _ (pure (a0X l,Value.none)) _ _ s;refine zY (zZ (wpAny_isInstance (T:= "NoneType") (show s.TypeIs .none "NoneType" from rfl) PySem.F.sub_NoneType_dict ?_));simp only[Bool.not_false,if_true];exact zZ (wpAny_rule (zY ⟨_,rfl,hq⟩))
def rDZ:R2:=λx y H Q=>∃(a:Addr) (ks:List (Key×V)),Rd H a (.dK ks)/\((x = .ref a/\y = .non)\/(x = .non/\y = .ref a))/\Q (.bl true) H
theorem cK {X:Cx}(hu:X.A.units+64 < cLine):OpR X (compareOp .NotEq) rDZ:=by
 intro pins s σ H x y v u Q I rx ry h;obtain⟨a,ks,ha,gi,q⟩:=h;obtain⟨_,za,va,ka,da⟩:=EF I.hok ha;have ht:=da.typeIs;rcases gi with ⟨rfl,rfl⟩ | ⟨rfl,rfl⟩
 . cases rx;cases ry;exact rc_ne_decline_or (k:=false) (Tb:= "NoneType") ht rfl (by decide) PySem.F.sub_NoneType_dict PySem.F.slot_dict_ne PySem.F.slot_NoneType_ne_refl (λ_ hq=>GC ht hq) (λ_ hq=>call_gives PySem.F.slot_NoneType_ne_refl rfl PySem.F.entry_NoneType_ne (PySem.F.args_NoneType_ne_2 _ _) (NoneType___ne___none_ref_0 a) hq) (λ_ hq=>wpAny_of_eq (rfl:isSame (.ref a) .none=pure false) hq) (.inr (by lia)) ⟨.bl true,H,I,rfl,q⟩
 . cases rx;cases ry;exact rc_ne_decline_or (k:=false) (Ta:= "NoneType") rfl ht (by decide) PySem.F.sub_dict_NoneType PySem.F.slot_NoneType_ne PySem.F.slot_dict_ne_refl (λ_ hq=>call_gives PySem.F.slot_NoneType_ne rfl PySem.F.entry_NoneType_ne (PySem.F.args_NoneType_ne_2 _ _) (NoneType___ne___none_ref_0 a) hq) (λ_ hq=>GC ht hq) (λ_ hq=>wpAny_of_eq (rfl:isSame .none (.ref a)=pure false) hq) (.inr (by lia)) ⟨.bl true,H,I,rfl,q⟩
end L2
namespace DL
open PySem PySem.Spec L2
def QY (K:Frg):R2:=λx y H Q=>JH K true x y H Q\/rDG K x y H Q\/rDZ x y H Q
theorem dE {X:Cx}{K:Frg}(h:X.K=K) (hu:X.A.units+64 < cLine):OpR X (compareOp .NotEq) (QY K):=by
 subst h;intro pins s σ H x y v u Q I rx ry h;rcases h with h | h | h;. exact S3 hu pins s σ H x y v u Q I rx ry h
 . exact cJ hu pins s σ H x y v u Q I rx ry h
 . exact cK hu pins s σ H x y v u Q I rx ry h
section
variable {K:Frg}{M:Own}{Q:DS->Own->Prop}
theorem a5 {x y:DS}(h:D2 K (JH K true) x y M Q):D2 K (QY K) x y M Q:=λH v u QQ oa s1 s2 k=>.inl (h H v u QQ oa s1 s2 k)
theorem cL {as bs:List (Str×PyData)}(oa:OE as) (ob:OE bs) (q:Q (.d (.bool (!N4 as bs))) M):D2 K (QY K) (.d (.dict (AE as))) (.d (.dict (AE bs))) M Q:=λH v u QQ ow s1 s2 k=>
 .inr (.inl ⟨M.W,as,bs,s1,s2,oa,ob,k _ H (.d (.bool (!N4 as bs))) M ow AI Step.refl q⟩)
theorem a6 {as:List (Str×PyData)}(q:Q (.d (.bool true)) M):D2 K (QY K) (.d (.dict (AE as))) (.d .none) M Q:=λH v u QQ ow s1 s2 k=>by have ff:=s1;unfold SI DV at ff s2;obtain⟨a,ks,rfl,_,ha,_⟩:=ff;exact .inr (.inr ⟨a,ks,ha,.inl ⟨rfl,s2⟩,k _ H (.d (.bool true)) M ow AI Step.refl q⟩)
theorem a7 {as:List (Str×PyData)}(q:Q (.d (.bool true)) M):D2 K (QY K) (.d .none) (.d (.dict (AE as))) M Q:=λH v u QQ ow s1 s2 k=>by have g9:=s2;unfold SI DV at g9 s1;obtain⟨a,ks,rfl,_,ha,_⟩:=g9;exact .inr (.inr ⟨a,ks,ha,.inr ⟨s1,rfl⟩,k _ H (.d (.bool true)) M ow AI Step.refl q⟩)
end
end DL
namespace DL
open PySem PySem.Spec L2
section
variable {ys:List Str}{w A B a b:List Th}{D E:Deed}{n:Str}
def AH (w:List Th):Deed->List Th
 | .put x p k=>BK w x p k
 | .take x=>AR w x
 | .move x p=>match AA w x with | some v=>BK (AR w x) x p v.2 | none=>w
 | .count x k=>match AA w x with | some v=>BK (AR w x) x v.1 (v.2+k) | none=>w
 | .name x y=>match AA w x with | some v=>BK (AR w x) y v.1 v.2 | none=>w
 | .split x y p k=>match AA w x with | some v=>BK (BK (AR w x) x v.1 (v.2 - k)) y p k | none=>w
 | .join x y=>match AA w x,AA w y with | some v,some u=>BK (AR (AR w x) y) x v.1 (v.2+u.2) | _,_=>w
theorem CQ (hg:goD w D) (n:Str):AA (AH w D) n=AA (doT w D) n:=by
 rw[BY hg.2.1 hg.2.2];have st:∀{n},n∈D.names->D.made≠some n->∃v,AA w n=some v:=λhn hm=>BQ (ES hg.2.2 hn hm);have fC:=hg.2.1.2.1;cases D with
 | put x p k=>exact B9 _ _ _ _ _
 | take x=>exact B3 _ _ _
 | move x p=> obtain⟨v,hv⟩:=st (n:=x) (by simp[Deed.names]) (by simp[Deed.made]);simp only[AH,hv,B9,B3,a7V];by_cases h:n=x <;> simp[h]
 | count x k=> obtain⟨v,hv⟩:=st (n:=x) (by simp[Deed.names]) (by simp[Deed.made]);simp only[AH,hv,B9,B3,a7V];by_cases h:n=x <;> simp[h]
 | name x y=> obtain⟨v,hv⟩:=st (n:=x) (by simp[Deed.names]) (by simp[Deed.made];exact λe=>fC e.symm);simp only[AH,hv,B9,B3]
 | split x y p k=> obtain⟨v,hv⟩:=st (n:=x) (by simp[Deed.names]) (by simp[Deed.made];exact λe=>fC e.symm);simp only[AH,hv,B9,B3,a7V];by_cases h:n=y <;> by_cases h2:n=x <;> simp[h,h2,Int.sub_eq_add_neg]
 | join x y=>
   obtain⟨v,hv⟩:=st (n:=x) (by simp[Deed.names]) (by simp[Deed.made]);obtain⟨u,hu⟩:=st (n:=y) (by simp[Deed.names]) (by simp[Deed.made]);have gi:x≠y:=fC;simp only[AH,hv,hu,B9,B3,Option.bind_some,a7V];by_cases h:n=y;. subst h;simp[a5J gi]
   . by_cases h2:n=x <;> simp[h,h2,gi]
theorem EA {x:Str}(h:(w.map (·.1)).Nodup):((AR w x).map (·.1)).Nodup:=(List.Sublist.map _ a8X).nodup h
theorem HY (h:(w.map (·.1)).Nodup) (D:Deed):((AH w D).map (·.1)).Nodup:=by
 cases D with
 | put x p k=>exact D5 h
 | take x=>exact EA h
 | move x p=>simp only[AH];split <;> first | exact D5 (EA h) | exact h
 | count x k=>simp only[AH];split <;> first | exact D5 (EA h) | exact h
 | name x y=>simp only[AH];split <;> first | exact D5 (EA h) | exact h
 | split x y p k=>simp only[AH];split <;> first | exact D5 (D5 (EA h)) | exact h
 | join x y=>simp only[AH];split <;> first | exact D5 (EA (EA h)) | exact h
theorem FA (h:There ys w) (hg:goD w D) (hD:∀x∈D.names,x∈ys):There ys (AH w D):=by refine⟨HY h.nd D,λt ht=>?_⟩;have h1:(AA (AH w D) t.1).isSome=true:=C7.mp (zL.mpr ⟨t,ht,rfl⟩);rw[CQ hg] at h1;obtain⟨s,hs,e⟩:=zL.mp (C7.mpr h1);rw[<-e];exact(TY h hg hD).sub s hs
def JK (o:Option (List Th)) (D:Deed):Option (List Th):=o.bind λw=>if AQ (w.map (·.1)) D=none then some (AH w D) else none
def AZ (w:List Th) (D E:Deed):Option (List Th):=JK (JK (some w) D) E
theorem LF (h:JK (some w) D=some a):AQ (w.map (·.1)) D=none/\a=AH w D:=by
 have h:(if AQ (w.map (·.1)) D=none then some (AH w D) else none)=some a:=h;split at h;. rename_i q;exact⟨q,(Option.some.inj h).symm⟩
 . cases h
theorem PM (h:AQ (w.map (·.1)) D=none):JK (some w) D=some (AH w D):=by show(if AQ (w.map (·.1)) D=none then some (AH w D) else none)=_;rw[if_pos h]
theorem J5 (h:AZ w D E=some a):AQ (w.map (·.1)) D=none/\AQ ((AH w D).map (·.1)) E=none/\a=AH (AH w D) E:=by
 unfold AZ at h;cases hs:JK (some w) D with
 | none=>rw[hs] at h;cases h
 | some A=> rw[hs] at h;obtain⟨h1,rfl⟩:=LF hs;obtain⟨h2,h3⟩:=LF h;exact⟨h1,h2,h3⟩
structure Few (ys:List Str) (w:List Th) (D E:Deed):Prop where
 th:There ys w
 few:ys.length<=6
 rd:D.real
 re:E.real
 nd:∀x∈D.names,x∈ys
 ne:∀x∈E.names,x∈ys
theorem Few.swap (h:Few ys w D E):Few ys w E D:=⟨h.th,h.few,h.re,h.rd,h.ne,h.nd⟩
theorem B0 (h:There ys w) (hl:ys.length<=6):TN w:=⟨h.nd,by have:=h.few;lia⟩
theorem N6 (hF:Few ys w D E) (ht:B7 D.d E.d=false) (h:AZ w D E=some a) :
   goD w D/\goD w E/\goD (AH w D) E/\goD (AH w E) D/\AZ w E D=some (AH (AH w E) D)/\AD w E=AD (AH w D) E/\AD (AH w E) D=AD w D/\PD (tsD a) (tsD (AH (AH w E) D)):=by
 obtain⟨h1,h2,rfl⟩:=J5 h;have ha:=U1 ht;have cw:=B0 hF.th hF.few;have hD:goD w D:=⟨cw,hF.rd,h1⟩
 have tA:=FA hF.th hD hF.nd;have dS:goD (AH w D) E:=⟨B0 tA hF.few,hF.re,h2⟩
 have hA:=CQ hD;have hE:goD w E:=PK cw dS λn hn=>by rw[hA,PH hD λh=>(ha n hn h).1]
 have tB:=FA hF.th hE hF.ne;have hB:=CQ hE;have dU:goD (AH w E) D:=PK (B0 tB hF.few) hD λn hn=>by rw[hB,PH hE λh=>(ha n h hn).2.1]
 refine⟨hD,hE,dS,dU,?_,(KB hD hE ha hA).symm,KB hE hD ha.symm hB,?_⟩;. unfold AZ;rw[PM hE.2.2,PM dU.2.2]
 . refine W7 (HY tA.nd E) (HY tB.nd D) λn=>?_;rw[CQ dS,CQ dU];exact O9 hD hE dS dU ha hA hB n
theorem QZ (hF:Few ys w D E) (ht:B7 D.d E.d=false) (h:AZ w D E=none):AZ w E D=none:=by
 cases h2:AZ w E D with
 | none=>rfl
 | some b=> have:=(N6 hF.swap (by rw[MW];exact ht) h2).2.2.2.2.1;rw[this] at h;cases h
theorem cM (hg:goD w D) (hn:n∈D.names) (hu:AJ D.d n=2):(AA (doT w D) n).isSome = !(AA w n).isSome:=by
 rw[BY hg.2.1 hg.2.2];have ci:(AA w n).isSome=true↔¬D.made=some n:=by rw[<-C7];exact B8 hg.2.2 n hn
 have fC:=hg.2.1.2.1;have st:∀{n},n∈D.names->D.made≠some n->∃v,AA w n=some v:=λhn hm=>BQ (ES hg.2.2 hn hm);cases D with
 | put x p k=>
   obtain rfl:n=x:=by simpa [Deed.names] using hn
   have:(AA w n).isSome=false:=by rw[<-b1Q,ci];simp[Deed.made]
   rw[this];simp
 | take x=>
   obtain rfl:n=x:=by simpa [Deed.names] using hn
   rw[ci.mpr (by simp[Deed.made])];simp
 | move x p=>rw[EV] at hu;cases hu
 | count x k=>
   obtain rfl:n=x:=by simpa [Deed.names] using hn
   rw[GW,if_pos rfl] at hu;cases hu
 | name x y=>
   have gi:x≠y:=fC;obtain⟨v,hv⟩:=st (n:=x) (by simp[Deed.names]) (by simp[Deed.made];exact λe=>fC e.symm);by_cases h:n=y
   . subst h;have:(AA w n).isSome=false:=by rw[<-b1Q,ci];simp[Deed.made]
     simp[this,hv]
   . obtain rfl:n=x:=by simp[Deed.names,h] at hn;exact hn
     rw[ci.mpr (by simp[Deed.made];exact λe=>h e.symm)];simp[h]
 | split x y p k=>
   by_cases h:n=y
   . subst h;have:(AA w n).isSome=false:=by rw[<-b1Q,ci];simp[Deed.made]
     rw[this];simp
   . obtain rfl:n=x:=by simp[Deed.names,h] at hn;exact hn
     rw[F9,if_pos rfl] at hu;cases hu
 | join x y=>
   by_cases h:n=y;. subst h;rw[ci.mpr (by simp[Deed.made])];simp
   . obtain rfl:n=x:=by simp[Deed.names,h] at hn;exact hn
     rw[CP,if_pos rfl] at hu;cases hu
theorem J6 (h1:AQ (a.map (·.1)) E=none) (h2:AQ (b.map (·.1)) E=none) (hn:n∈E.names):(AA a n).isSome=(AA b n).isSome:=by have q1:=B8 h1 n hn;have q2:=B8 h2 n hn;rw[C7] at q1 q2;rw[a2V,q1,q2]
theorem U7 (D:Deed) (n:Str):AJ D.d n=0\/AJ D.d n=1\/AJ D.d n=2:=by
 cases D with
 | put x p k=>exact .inr (.inr rfl)
 | take x=>exact .inr (.inr rfl)
 | move x p=>exact .inl rfl
 | count x k=>rw[GW];split <;> simp
 | name x y=>exact .inr (.inr rfl)
 | split x y p k=>rw[F9];split <;> simp
 | join x y=>rw[CP];split <;> simp
theorem N7 (h:AJ D.d n=0) (hn:n∈D.names):∃p,D = .move n p:=by
 cases D with
 | move x p=>
   obtain rfl:n=x:=by simpa [Deed.names] using hn
   exact⟨p,rfl⟩
 | put x p k=>rw[W8] at h;cases h
 | take x=>rw[U2] at h;cases h
 | count x k=>rw[GW] at h;split at h <;> cases h
 | name x y=>rw[U3] at h;cases h
 | split x y p k=>rw[F9] at h;split at h <;> cases h
 | join x y=>rw[CP] at h;split at h <;> cases h
theorem R0 (h:B7 D.d E.d=true):∃n,n∈D.names/\n∈E.names/\(AJ D.d n=2\/AJ E.d n=2\/(AJ D.d n=0/\AJ E.d n=0)):=by unfold B7 at h;obtain⟨n,h1,h2⟩:=List.any_eq_true.mp h;rw[a0W,decide_eq_true_iff,Bool.not_eq_true'] at h2;rw[EQ] at h1 h2;refine⟨n,h1,h2.1,?_⟩;have h3:=h2.2;rcases U7 D n with q | q | q <;> rcases U7 E n with r | r | r <;> rw[q,r] at h3 ⊢ <;> simp[CM] at h3 ⊢
def neB (x y:Option (List Th)):Bool:=match x,y with
 | none,none=>false
 | some a,some b=>!N4 (tsD a) (tsD b)
 | _,_=>true
theorem WC (ck:n∈a.map (·.1)) (h:∀v u,AA a n=some v->AA b n=some u->v.1≠u.1) (hb:(AA b n).isSome=true) (na:(a.map (·.1)).Nodup):N4 (tsD a) (tsD b)=false:=by
 obtain⟨t,ht,rfl⟩:=zL.mp ck;obtain⟨u,hu⟩:=Option.isSome_iff_exists.mp hb;have hv:AA a t.1=some t.2:=(GB na).mp ht;have hs:N3 (tsD a) (tsD b)=false:=by unfold N3;rw[List.all_eq_false];refine⟨(t.1,pcD t.2.1 t.2.2),zL.mpr ⟨t,ht,rfl⟩,?_⟩;dsimp only;rw[AV,hu];show ¬(a0V (.tuple [.int t.2.1,.int t.2.2]) (.tuple [.int u.1,.int u.2])=true);have:=h _ _ hv hu;simp[a0V,PyData.eqvAll,this]
 unfold N4;rw[hs,Bool.and_false]
theorem WE (hF:Few ys w D E) (ht:B7 D.d E.d=true) (ck:D≠E) (h:AZ w D E=some a):neB (AZ w D E) (AZ w E D)=true:=by
 rw[h];cases h2:AZ w E D with
 | none=>rfl
 | some b=>
   obtain⟨d1,d2,rfl⟩:=J5 h;obtain⟨e1,e2,rfl⟩:=J5 h2;have cw:=B0 hF.th hF.few;have hD:goD w D:=⟨cw,hF.rd,d1⟩
   have hE:goD w E:=⟨cw,hF.re,e1⟩
   obtain⟨n,nD,nE,hu⟩:=R0 ht;have pE:(AA w n).isSome=(AA (AH w D) n).isSome:=J6 e1 d2 nE;have pD:(AA w n).isSome=(AA (AH w E) n).isSome:=J6 d1 e2 nD;rw[CQ hD] at pE;rw[CQ hE] at pD;rcases hu with hu | hu | ⟨hu,hv⟩
   . rw[cM hD nD hu] at pE;cases hx:(AA w n).isSome <;> rw[hx] at pE <;> cases pE
   . rw[cM hE nE hu] at pD;cases hx:(AA w n).isSome <;> rw[hx] at pD <;> cases pD
   . obtain⟨p,rfl⟩:=N7 hu nD;obtain⟨q,rfl⟩:=N7 hv nE;have tA:=FA hF.th hD hF.nd;have tB:=FA hF.th hE hF.ne;have dS:goD (AH w (.move n p)) (.move n q):=⟨B0 tA hF.few,hF.re,d2⟩
     have dU:goD (AH w (.move n q)) (.move n p):=⟨B0 tB hF.few,hF.rd,e2⟩
     have la:=λm=>CQ dS m;have lb:=λm=>CQ dU m;have pq:q≠p:=λe=>ck (by rw[e]);obtain⟨v,ik⟩:=BQ (ES d1 (n:=n) (by simp[Deed.names]) (by simp[Deed.made]));have l1:AA (AH (AH w (.move n p)) (.move n q)) n=some (q,v.2):=by rw[la,BY dS.2.1 dS.2.2];simp only[if_pos];rw[CQ hD,BY hD.2.1 hD.2.2];simp[ik]
     have l2:AA (AH (AH w (.move n q)) (.move n p)) n=some (p,v.2):=by rw[lb,BY dU.2.1 dU.2.2];simp only[if_pos];rw[CQ hE,BY hE.2.1 hE.2.2];simp[ik]
     show(!N4 _ _)=true;rw[WC (n:=n) (C7.mpr (by rw[l1];rfl)) (λx y hx hy=>by rw[l1] at hx;rw[l2] at hy;cases hx;cases hy;exact pq) (by rw[l2];rfl) (HY tA.nd _)];rfl
end
end DL
namespace DL
open PySem PySem.Spec L2
section
variable {ys:List Str}{w a b:List Th}{D E:Deed}{n:Str}{M:Own}{Q:DS->Own->Prop}
def Opp (xs ys:List PyData):Prop:=∃r,lessL xs ys=some r/\lessL ys xs=some (!r)
theorem FB {i j:Int}{xs ys:List PyData}(h:i=j->Opp xs ys):Opp (.int i::xs) (.int j::ys):=by
 by_cases e:i=j
 . subst e;obtain⟨r,h1,h2⟩:=h rfl;refine⟨r,?_,?_⟩;. rw[lessL,if_pos (by rw[HX];exact decide_eq_true rfl)];exact h1
   . rw[lessL,if_pos (by rw[HX];exact decide_eq_true rfl)];exact h2
 . refine⟨decide (i < j),?_,?_⟩;. rw[lessL,if_neg (by rw[HX];simp[e])];rfl
   . rw[lessL,if_neg (by rw[HX];simp[a5J e])];show some (decide (j < i))=_;congr 1;rw[<-decide_not];congr 1;rw[eq_iff_iff];lia
theorem BR {i j:Str}{xs ys:List PyData}(h:i=j->Opp xs ys):Opp (.str i::xs) (.str j::ys):=by
 by_cases e:i=j
 . subst e;obtain⟨r,h1,h2⟩:=h rfl;refine⟨r,?_,?_⟩;. rw[lessL,if_pos (by rw[BB];exact beq_self_eq_true _)];exact h1
   . rw[lessL,if_pos (by rw[BB];exact beq_self_eq_true _)];exact h2
 . have hl:i.cps.toList≠j.cps.toList:=λq=>e (by
     obtain⟨⟨x⟩⟩:=i;obtain⟨⟨y⟩⟩:=j;simp at q;rw[q]);refine⟨decide (i.cps.toList < j.cps.toList),?_,?_⟩
   . rw[lessL,if_neg (by rw[BB];simp[e])];rfl
   . rw[lessL,if_neg (by rw[BB];simp[a5J e])];show some (decide (j.cps.toList < i.cps.toList))=_;congr 1;rw[<-decide_not];congr 1;rw[eq_iff_iff];constructor;. exact λh1 h2=>List.lt_irrefl _ (List.lt_trans h1 h2)
     . intro h1;rcases List.le_iff_lt_or_eq.mp (List.not_lt.mp h1) with z | z;. exact z
       . exact absurd z.symm hl
def AS (D:Deed):List PyData:=.str D.word::.str D.fst::D.rest
theorem R5 (h:D≠E):Opp (AS D) (AS E):=by
 refine BR λhw=>?_;cases D <;> cases E <;> first
   | (exfalso;simp only[Deed.word] at hw;revert hw;decide +kernel)
   | skip
 . exact BR λe1=>FB λe2=>FB λe3=>absurd (by simp only[Deed.fst] at e1;rw[e1,e2,e3]) h
 . exact BR λe1=>absurd (by simp only[Deed.fst] at e1;rw[e1]) h
 . exact BR λe1=>FB λe2=>absurd (by simp only[Deed.fst] at e1;rw[e1,e2]) h
 . exact BR λe1=>FB λe2=>absurd (by simp only[Deed.fst] at e1;rw[e1,e2]) h
 . exact BR λe1=>BR λe2=>absurd (by simp only[Deed.fst] at e1;rw[e1,e2]) h
 . exact BR λe1=>BR λe2=>FB λe3=>FB λe4=>absurd (by simp only[Deed.fst] at e1;rw[e1,e2,e3,e4]) h
 . exact BR λe1=>BR λe2=>absurd (by simp only[Deed.fst] at e1;rw[e1,e2]) h
theorem D6 (D:Deed):D.d = .tuple (AS D):=D.d_eq
abbrev prX (D B:Deed):PyData:=prD (AS D) B.d
theorem U8 (hD:D.ok) (hE:E.ok) (h:D≠E):a0V D.d E.d=false:=by
 cases he:a0V D.d E.d with
 | false=>rfl
 | true=>exact absurd (BP (TV D.d E.d (by cases D <;> rfl) (by cases E <;> rfl) he)) h
theorem R6 {B C:Deed}(hD:D.real) (hE:E.real) (hB:B.ok) (hC:C.ok) (h:D=E->B=C) : ∃r1 r2,lessL [.tuple (AS E),C.d] [.tuple (AS D),B.d]=some r1/\lessL [.tuple (AS D),B.d] [.tuple (AS E),C.d]=some r2/\(if r1=true then [prX E C,prX D B] else [prX D B,prX E C])=(if r2=true then [prX D B,prX E C] else [prX E C,prX D B]):=by
 by_cases e:D=E
 . obtain rfl:=h e;subst e;have s1:a0V (.tuple (AS D)) (.tuple (AS D))=true:=by rw[<-D6];exact ET (DX hD.1)
   have s2:a0V B.d B.d=true:=ET (DX hB);have:lessL [.tuple (AS D),B.d] [.tuple (AS D),B.d]=some false:=by rw[lessL,if_pos s1,lessL,if_pos s2,lessL]
   exact⟨false,false,this,this,rfl⟩
 . obtain⟨r,h1,h2⟩:=R5 e;refine⟨!r,r,?_,?_,?_⟩;. rw[lessL,if_neg (by rw[<-D6,<-D6,U8 hE.1 hD.1 (a5J e)];exact nft),AW];exact h2
   . rw[lessL,if_neg (by rw[<-D6,<-D6,U8 hD.1 hE.1 e];exact nft),AW];exact h1
   . cases r <;> rfl
theorem FC (w:List Th) (h:D.ok):(AD w D).ok:=by
 have sub:∀x∈(AD w D).names,x∈D.names:=by
   cases D with
   | take x=>simp only[AD];split <;> simp[Deed.names]
   | move x p=>simp only[AD];split <;> simp[Deed.names]
   | join x y=>simp only[AD];split <;> simp[Deed.names]
   | name x y=>intro z hz;simp[AD,Deed.names] at hz ⊢;exact hz.symm
   | _=>simp[AD,Deed.names]
 exact λx hx=>h x (sub x hx)
theorem N8 (h:D.ok):D.d.canLay0=true/\D.d.depth<=2:=by have hs:=DX h;refine⟨zG hs,?_⟩;cases D <;> simp[Deed.d,PyData.depth,a1V]
theorem EW {B:Deed}(hD:D.ok) (hB:B.ok):(prX D B).canLay0=true/\(prX D B).depth<=8:=by
 have h1:=N8 hD;have h2:=N8 hB;rw[D6 D] at h1;constructor;. show a0K [.tuple (AS D),B.d]=true;simp only[a0K,a0W,and_true];exact⟨h1.1,h2.1⟩
 . show a1V [.tuple (AS D),B.d]+1<=8;simp only[a1V];lia
theorem R7 {a b:List Th}(h:wQ a=wQ b):a=b:=ZW (by unfold wQ at h;injection h with h;unfold tsO;rw[h])
theorem WF {o p:Option (List Th)}(h:EU o=EU p):o=p:=by
 cases o with
 | none=>cases p with
   | none=>rfl
   | some b=>cases h
 | some a=>cases p with
   | none=>cases h
   | some b=>exact congrArg some (R7 h)
def HZ:FSp:=⟨λxs M=>∃(p:Addr) (o:MO) (ys:List Str),xs=[.loc p,.d (FJ ys)]/\M p=some o/\CN o/\2<=ys.length/\ys.length<=1000/\(∀z∈ys,CC z)/\ys.Nodup,
 λxs M y M'=>∀(p:Addr) (ys:List Str),xs=[.loc p,.d (FJ ys)]->∃(D:Deed) (o:MO),y = .d D.d/\D.real/\(∀x∈D.names,x∈ys)/\CN o/\M'=M.put p o⟩
theorem J7 {p:Addr}{o:MO}(m:M p=some o) (ho:CN o) (h0:2<=ys.length) (h1:ys.length<=1000) (hy:∀z∈ys,CC z) (nd:ys.Nodup) (q:∀(D:Deed) o',D.real->(∀x∈D.names,x∈ys)->CN o'->Q (.d D.d) (M.put p o')) :
   [DS.loc p,.d (FJ ys)].length=2/\HZ.pre [.loc p,.d (FJ ys)] M/\∀x M',HZ.post [.loc p,.d (FJ ys)] M x M'->Q x M':=
 ⟨rfl,⟨p,o,ys,rfl,m,ho,h0,h1,hy,nd⟩,λx M' h=>by obtain⟨D,o',rfl,h2,h3,h4,rfl⟩:=h p ys rfl;exact q D o' h2 h3 h4⟩
def mdS (D:Deed):Str:=D.made.getD (a0Q "")
def EX:FSp:=⟨λxs M=>∃D:Deed,xs=[.d D.d]/\D.real,λxs M y M'=>∀D:Deed,xs=[.d D.d]->y = .d (.str (mdS D))/\M'=M⟩
theorem N9 (h:D.real) (q:Q (.d (.str (mdS D))) M):[DS.d D.d].length=1/\EX.pre [.d D.d] M/\∀x M',EX.post [.d D.d] M x M'->Q x M':=⟨rfl,⟨D,rfl,h⟩,λx M' hh=>by obtain⟨rfl,rfl⟩:=hh D rfl;exact q⟩
def wdE (w:List Th) (D:Deed):List DS:=[.d (wQ w),.d D.d]
def IA:FSp:=⟨λxs M=>∃(w:List Th) (D:Deed),xs=wdE w D/\D.real,λxs M y M'=>∀(w:List Th) (D:Deed),xs=wdE w D->y = .d (.bool (decide (AQ (w.map (·.1)) D=none)))/\M'=M⟩
theorem OF (h:D.real) (q:Q (.d (.bool (decide (AQ (w.map (·.1)) D=none)))) M):(wdE w D).length=2/\IA.pre (wdE w D) M/\∀y M',IA.post (wdE w D) M y M'->Q y M':=⟨rfl,⟨w,D,rfl,h⟩,λy M' hh=>by obtain⟨rfl,rfl⟩:=hh w D rfl;exact q⟩
structure Ok24 (o:Option (List Th)) (D:Deed):Prop where
 ex:∃ys:List Str,ys.length<=6/\D.real/\(∀x∈D.names,x∈ys)/\∀w,o=some w->There ys w
def doX (o:Option (List Th)) (D:Deed):List DS:=[.d (EU o),.d D.d]
def GY:FSp:=⟨λxs M=>∃(o:Option (List Th)) (D:Deed),xs=doX o D/\Ok24 o D,λxs M y M'=>∀(o:Option (List Th)) (D:Deed),xs=doX o D->y = .d (EU (JK o D))/\M'=M⟩
theorem FD {o:Option (List Th)}(h:Ok24 o D) (q:Q (.d (EU (JK o D))) M):(doX o D).length=2/\GY.pre (doX o D) M/\∀y M',GY.post (doX o D) M y M'->Q y M':=⟨rfl,⟨o,D,rfl,h⟩,λy M' hh=>by obtain⟨rfl,rfl⟩:=hh o D rfl;exact q⟩
theorem Ok24.step {o:Option (List Th)}{ys:List Str}(h6:ys.length<=6) (hr:D.real) (hn:∀x∈D.names,x∈ys) (ho:∀w,o=some w->There ys w):∀w,JK o D=some w->There ys w:=λw h=>by
 cases o with
 | none=>cases h
 | some v=> obtain⟨h1,rfl⟩:=LF h;exact FA (ho v rfl) ⟨B0 (ho v rfl) h6,hr,h1⟩ hn
def dnX (w:List Th) (D E:Deed):List DS:=[.d (wQ w),.d (.list [D.d,E.d])]
def EY:FSp:=⟨λxs M=>∃(ys:List Str) (w:List Th) (D E:Deed),xs=dnX w D E/\Few ys w D E,λxs M y M'=>∀(w:List Th) (D E:Deed),xs=dnX w D E->y = .d (EU (AZ w D E))/\M'=M⟩
theorem C9 (h:Few ys w D E) (q:Q (.d (EU (AZ w D E))) M):(dnX w D E).length=2/\EY.pre (dnX w D E) M/\∀y M',EY.post (dnX w D E) M y M'->Q y M':=⟨rfl,⟨ys,w,D,E,rfl,h⟩,λy M' hh=>by obtain⟨rfl,rfl⟩:=hh w D E rfl;exact q⟩
def EZ:FSp:=⟨λxs M=>∃(w:List Th) (D:Deed),xs=wdE w D/\goD w D,λxs M y M'=>∀(w:List Th) (D:Deed),xs=wdE w D->y = .d (AD w D).d/\M'=M⟩
theorem HI (h:goD w D) (q:Q (.d (AD w D).d) M):(wdE w D).length=2/\EZ.pre (wdE w D) M/\∀y M',EZ.post (wdE w D) M y M'->Q y M':=⟨rfl,⟨w,D,rfl,h⟩,λy M' hh=>by obtain⟨rfl,rfl⟩:=hh w D rfl;exact q⟩
def EB:FSp:=⟨λxs M=>∃ys:List Str,xs=[.d (FJ ys)]/\ys.length<=4,λxs M y M'=>∀ys:List Str,xs=[.d (FJ ys)]->M'=M/\∃ws:List (List Th),y = .d (.list (ws.map wQ))/\ws.length<=16/\∀w∈ws,There ys w⟩
theorem NA (h:ys.length<=4) (q:∀ws:List (List Th),ws.length<=16->(∀w∈ws,There ys w)->Q (.d (.list (ws.map wQ))) M):[DS.d (FJ ys)].length=1/\EB.pre [.d (FJ ys)] M/\∀y M',EB.post [.d (FJ ys)] M y M'->Q y M':=⟨rfl,⟨ys,rfl,h⟩,λy M' hh=>by obtain⟨rfl,ws,rfl,h1,h2⟩:=hh ys rfl;exact q ws h1 h2⟩
def FE:FSp:=⟨λxs M=>∃(ys:List Str) (w:List Th) (D E:Deed) (r:Bool),xs=dnX w D E/\Few ys w D E/\goD w D/\goD (AH w D) E/\lessL [.tuple (AS E),(AD (AH w D) E).d] [.tuple (AS D),(AD w D).d]=some r,
 λxs M y M'=>∀(w:List Th) (D E:Deed) (r:Bool),xs=dnX w D E->lessL [.tuple (AS E),(AD (AH w D) E).d] [.tuple (AS D),(AD w D).d]=some r->y = .d (.list (if r=true then [prX E (AD (AH w D) E),prX D (AD w D)] else [prX D (AD w D),prX E (AD (AH w D) E)]))/\M'=M⟩
theorem GD {r:Bool}(h:Few ys w D E) (h1:goD w D) (h2:goD (AH w D) E) (hl:lessL [.tuple (AS E),(AD (AH w D) E).d] [.tuple (AS D),(AD w D).d]=some r) (q:Q (.d (.list (if r=true then [prX E (AD (AH w D) E),prX D (AD w D)] else [prX D (AD w D),prX E (AD (AH w D) E)]))) M):(dnX w D E).length=2/\FE.pre (dnX w D E) M/\∀y M',FE.post (dnX w D E) M y M'->Q y M':=⟨rfl,⟨ys,w,D,E,r,rfl,h,h1,h2,hl⟩,λy M' hh=>by obtain⟨rfl,rfl⟩:=hh w D E r rfl hl;exact q⟩
def smX (w:List Th) (D E:Deed):List DS:=[.d (wQ w),.d D.d,.d E.d]
def GF:FSp:=⟨λxs M=>∃(ys:List Str) (w:List Th) (D E:Deed),xs=smX w D E/\Few ys w D E/\B7 D.d E.d=false,λxs M y M'=>y = .d (.bool true)/\M'=M⟩
theorem NB (h:Few ys w D E) (ht:B7 D.d E.d=false) (q:Q (.d (.bool true)) M):(smX w D E).length=3/\GF.pre (smX w D E) M/\∀y M',GF.post (smX w D E) M y M'->Q y M':=⟨rfl,⟨ys,w,D,E,rfl,h,ht⟩,λy M' hh=>by obtain⟨rfl,rfl⟩:=hh;exact q⟩
def rtX (ys:List Str) (D E:Deed):List DS:=[.d (FJ ys),.d D.d,.d E.d]
structure Deeds24 (ys:List Str) (D E:Deed):Prop where
 few:ys.length<=4
 rd:D.real
 re:E.real
 nd:∀x∈D.names,x∈ys
 ne:∀x∈E.names,x∈ys
theorem Deeds24.at (h:Deeds24 ys D E) (hw:There ys w):Few ys w D E:=⟨hw,by have:=h.few;lia,h.rd,h.re,h.nd,h.ne⟩
def DY:FSp:=⟨λxs M=>∃(ys:List Str) (D E:Deed),xs=rtX ys D E/\Deeds24 ys D E,λxs M y M'=>y = .d (.bool true)/\M'=M⟩
theorem LG (h:Deeds24 ys D E) (q:Q (.d (.bool true)) M):(rtX ys D E).length=3/\DY.pre (rtX ys D E) M/\∀y M',DY.post (rtX ys D E) M y M'->Q y M':=⟨rfl,⟨ys,D,E,rfl,h⟩,λy M' hh=>by obtain⟨rfl,rfl⟩:=hh;exact q⟩
theorem X6 (w:List Th):OE (tsD w):=λp hp=>by obtain⟨t,_,rfl⟩:=zL.mp hp;exact⟨rfl,Nat.le_of_ble_eq_true rfl⟩
theorem a8 {o p:Option (List Th)}{K:Frg}(q:Q (.d (.bool (neB o p))) M):D2 K (QY K) (.d (EU o)) (.d (EU p)) M Q:=by
 cases o <;> cases p;. exact a5 (CB rfl rfl q)
 . exact a7 q
 . exact a6 q
 . exact cL (X6 _) (X6 _) q
theorem J8 {x y:PyData}(hx:x.canLay0=true/\x.depth<=8) (hy:y.canLay0=true/\y.depth<=8):zH (.list [x,y])=true:=by
 refine F6 ?_ ?_;. show a0K [x,y]=true;simp only[a0K,a0W,and_true];exact⟨hx.1,hy.1⟩
 . show a1V [x,y]+1<=64;simp only[a1V];lia
theorem OG {z:Str}{p c:Int}(h:There ys w) (hz:z∈ys):There ys (BK w z p c):=by
 refine⟨D5 h.nd,λt ht=>?_⟩;unfold BK at ht;split at ht
 . obtain⟨s,hs,rfl⟩:=zL.mp ht;split;. exact h.sub s hs
   . exact h.sub s hs
 . rcases yW.mp ht with q | q;. exact h.sub t q
   . rw[List.mem_singleton.mp q];exact hz
open Classical in
noncomputable def GZ (f:List Th->PyData) (d:PyData):PyData:=if h:∃w:List Th,d=wQ w then f (choose h) else .none
theorem FF (f:List Th->PyData) (w:List Th):GZ f (wQ w)=f w:=by
 have h:∃w2:List Th,wQ w=wQ w2:=⟨w,rfl⟩
 unfold GZ;rw[dif_pos h,<-R7 (Classical.choose_spec h)]
theorem F0 (f:List Th->Bool) (ws:List (List Th)):(ws.map wQ).map (GZ λw=>.bool (f w))=(ws.map f).map .bool:=by rw[zD,zD];exact yN λw _=>FF _ w
theorem WG (hr:D.real) (ns:List Str):(D.names.map λn=>decide (n∈ns) != decide (n=mdS D)).all id=decide (AQ ns D=none):=by
 rw[a2V,decide_eq_true_iff,b0V];have hm:∀n∈D.names,(n=mdS D)↔D.made=some n:=λn hn=>by
   have nz:=hr.1 n hn;unfold mdS;cases hd:D.made with
   | none=> refine⟨λe=>?_,λe=>nomatch e⟩;exfalso;rw[show(none:Option Str).getD (a0Q "")=a0Q "" from rfl] at e;rw[e] at nz;exact absurd nz.1 (by decide +kernel)
   | some m=>exact⟨λe=>by rw[e];rfl,λe=>by cases e;rfl⟩
 constructor;. intro h;refine N0 λn hn=>?_;have:=h _ (zL.mpr ⟨n,hn,rfl⟩);rw[<-hm n hn];by_cases h1:n∈ns <;> by_cases h2:n=mdS D <;> simp_all
 . rintro h b hb;obtain⟨n,hn,rfl⟩:=zL.mp hb;have:=B8 h n hn;rw[<-hm n hn] at this;by_cases h1:n∈ns <;> by_cases h2:n=mdS D <;> simp_all
theorem dF (w:List Th) (z:Str):(C6 (tsD w) z).isSome=decide (z∈w.map (·.1)):=by rw[AV,a9J,a2V,decide_eq_true_iff,C7]
def cN (w:List Th) (D:Deed):PyData->PyData | .str z=>.bool (!(decide (z∈w.map (·.1))==(z==mdS D))) | d=>d
theorem R8 (w:List Th) (D:Deed):(D.names.map a0Z).map (cN w D)=(D.names.map λn=>decide (n∈w.map (·.1)) != decide (n=mdS D)).map .bool:=by rw[zD,zD];refine yN λn _=>?_;show PyData.bool (!(decide (n∈w.map (·.1))==(n==mdS D))) = .bool (decide (n∈w.map (·.1)) != decide (n=mdS D));rw[show(n==mdS D)=decide (n=mdS D) by rw[a2V];simp];rfl
theorem R9 (h:D.ok):zH (.str (mdS D))=true:=by
 unfold mdS;cases hd:D.made with
 | none=>decide +kernel
 | some m=>exact E8 (h m (by cases D <;> simp[Deed.made] at hd <;> subst hd <;> simp[Deed.names]))
theorem ND (D:Deed):X5 (EO D.d) = .list (D.names.map .str):=by rw[G6];rfl
theorem RA (D:Deed):D.names.length<=2:=by cases D <;> simp[Deed.names]
theorem CS (w:List Th) (x:Str):(AR w x).length<=w.length:=yL _ _
end
end DL
namespace DL
open PySem PySem.Spec L2
def FnIn (K:Frg) (n:Str) (st:Stmt):Prop:=∃(f:Addr) (oc:Value) (od:Option Addr) (kV dc pm:Value) (an:Option Addr) (cd ct:Value) (sl:Array (Option Value)),a1W K mainGlobals n=some (some (.ref f)) /\
 K.lookup f=some ⟨oc,od,.func (a3W n n (CD st) (BN st) (AC st) .none kV dc pm an cd ct),sl⟩/\a8J K cd n=true/\a5Q K (.ref f)=true
theorem WH {K:Frg}{n:Str}{st:Stmt}{f:Addr}{oc:Value}{od:Option Addr}{kV dc pm:Value}{an:Option Addr}{cd ct:Value}{sl:Array (Option Value)}(a:a1W K mainGlobals n=some (some (.ref f))) (l:K.lookup f=some ⟨oc,od,.func (a3W n n (CD st) (BN st) (AC st) .none kV dc pm an cd ct),sl⟩) (c:a8J K cd n=true) (k:a5Q K (.ref f)=true):FnIn K n st:=⟨f,oc,od,kV,dc,pm,an,cd,ct,sl,a,l,c,k⟩
structure FnAt (K:Frg) (mg:Str->Option Value) (n:Str) (st:Stmt) (f:Addr) (fd:FuncData):Prop where
 fn:Fun K n n st f fd
 mg_:mg n=some (.ref f)
 kp:a5Q K (.ref f)=true
theorem FnIn.at {K:Frg}{n:Str}{st:Stmt}{h:Heap}{mg:Str->Option Value}(b:FnIn K n st) (X:K.In h) (G:h.Ns mainGlobals mg):∃f fd,FnAt K mg n st f fd:=
 let ⟨f,_,_,_,_,_,_,_,_,_,a,l,c,k⟩:=b
 ⟨f,_,YJ l c k,PySem.W.mg_of X G a,k⟩
section
variable {P:Program}{w:World}{K:Frg}{mg:Str->Option Value}{base:Heap}{n:Str}{st:Stmt}{f:Addr}{fd:FuncData}{k:Nat}{ps:List Str}
abbrev a9 (n:Str) (st:Stmt) (ps:List Str):Prop:=∀(kV doc pm:Value) (an:Option Addr) (cdv ct:Value) (us:List Value),us.length=ps.length->bindArgs (a3W n n (CD st) (BN st) (AC st) .none kV doc pm an cdv ct) ⟨us,[]⟩=pure (ps.zip us)
theorem FnAt.has {S:FSp}(a:FnAt K mg n st f fd) (h:FnOk P w K mg base CX0 k f fd ps (spD K ps.length S)) (b:a9 n st ps):Has P w K mg base n k ps S:=⟨f,fd,h,a.mg_,a.kp,a.fn.binds b⟩
end
end DL
namespace DL
open PySem PySem.Spec L2
abbrev FG:Stmt:=_root_.sT 2
abbrev EC:Stmt:=_root_.sT 3
abbrev GG:Stmt:=_root_.sT 8
abbrev D7:Stmt:=_root_.sT 7
abbrev GH:Stmt:=_root_.sT 6
abbrev CI:Stmt:=_root_.sT 10
abbrev D8:Stmt:=_root_.sT 11
abbrev D9:Stmt:=_root_.sT 12
abbrev BC:Stmt:=_root_.sT 13
abbrev BG:Stmt:=_root_.sT 14
abbrev CJ:Stmt:=_root_.sT 15
abbrev DB:Stmt:=_root_.sT 16
abbrev CT:Stmt:=_root_.sT 17
abbrev FH:Stmt:=_root_.sT 18
abbrev DC:Stmt:=_root_.sT 19
abbrev DD:Stmt:=_root_.sT 20
abbrev BZ:Stmt:=_root_.sT 21
abbrev CK:Stmt:=_root_.sT 22
abbrev DF:Stmt:=_root_.sT 23
abbrev BS:Stmt:=_root_.sT 24
abbrev PN:Stmt:=_root_.sT 25
abbrev vS (x:String) (t:Tok):Value:=.str (a0Q x) t
abbrev eS (P:Params) (x:String) (t:Tok) (v:Value):DictEntry:=⟨a3V P (a0Q x),.str (a0Q x) t,v⟩
abbrev hs (i:Nat):Stmt:=PySem.Challenge.pw_struckdeeds_k24_whole_touching_by_worlds.main.body.getD i (.Pass ⟨0,0,0,0⟩)
abbrev fO (n q:String) (st:Stmt) (doc pm:Value) (c:Nat):Obj:=⟨.type "function", none,.func (a3W (a0Q n) (a0Q q) (CD st) (BN st) (AC st) .none .none doc pm none (.ref c) .none),#[]⟩
abbrev gO (n q:String) (st:Stmt):Obj:=⟨.none,none,.func (.mk (a0Q n) (a0Q q) (CD st) (.stmts (BN st)) (AC st) 0 [] .none .none .none .none none .none .none 0),#[]⟩
abbrev tO (vs:Array Value):Obj:=⟨.type "tuple", none,.seq vs 0,#[]⟩
abbrev kO (n q:String) (a b c:Tok) (l k f:Nat) (x1:Value) (t:Nat) (x2 x3 x4 x5:Value) (u l2:Nat) (d:Tok):Obj:=⟨.type "code", none,.fields #[vS n a,vS q b,vS "/claim/cut.py" c,.int l 0,.int k 0,.int 0 0,.int 0 0,.int f 0,x1,.bool true,.int t 0,x2,.none,x3,x4,x5,.int u 0,.int l2 0,vS "/claim/cut.py" d],#[]⟩
abbrev fP (n:String) (st:Stmt) (doc pm:Value) (c:Nat):Obj:=fO n n st doc pm c
abbrev gP (n:String) (st:Stmt):Obj:=gO n n st
abbrev kPz (n:String) (a b c:Tok) (l k f:Nat) (x1:Value) (t:Nat) (x2 x3 x4 x5:Value) (u l2:Nat) (d:Tok):Obj:=kO n n a b c l k f x1 t x2 x3 x4 x5 u l2 d
abbrev nF (vs:Array Value):Obj:=⟨.none,none,.fields vs,#[]⟩
abbrev lF (l:List (Nat×Nat×Nat)):Obj:=nF (l.flatMap λt=>[.int t.1 0,.int t.2.1 0,.ref t.2.2]).toArray
def hV:Program:={ PySem.Challenge.pw_struckdeeds_k24_whole_touching_by_worlds with main:={ PySem.Challenge.pw_struckdeeds_k24_whole_touching_by_worlds.main with body:=([1,2,3,5,6,7,8,10,11,12,13,14,15,16,17,18,19,20,21,22,23,24,25]:List Nat).map hs } }
abbrev hB:List Stmt:=PySem.W.behindTheImports PySem.Challenge.pw_struckdeeds_k24_whole_touching_by_worlds
def hN:Env:={ scope:=PySem.Challenge.pw_struckdeeds_k24_whole_touching_by_worlds.main.scope,locals:=mainNs,globals:=mainNs,cells:=[],code:=a0X 13,frame:=some 14 }
abbrev hC:Code:=.body hB hN
abbrev hF:List Frame:=[PySem.W.topFrame { line:=0,col:=0,endLine:=0,endCol:=0 }]
abbrev hI (t:PySem.W.BT) (l:List (Nat×Obj)):PySem.W.BT:=l.foldl (λt x=>t.ins x.1 x.2) t
noncomputable def hT0:Params->PySem.W.BT:=λP=>hI .nil [(0,PySem.W.boot_o_0 P),(1,PySem.W.boot_o_1 P),(2,PySem.W.boot_o_2 P),(3,PySem.W.boot_o_3 P),(4,PySem.W.boot_o_4 P),(5,PySem.W.boot_o_5 P),(6,PySem.W.boot_o_6 P),(7,PySem.W.boot_o_7 P),(8,PySem.W.boot_o_8 P),(9,PySem.W.boot_o_9 P),(10,PySem.W.boot_o_10 P)]
def qA (a t:Nat) (n:String) (k ln ar fl:Nat) (ns:List String) (m:String) (s:Tok):List (Nat×Obj):=[(a,tO #[]),(a+1,nF #[]),(a+2,tO (ns.zipIdx.map λp=>vS p.1 (t+3+p.2)).toArray),(a+3,tO #[]),(a+4,gP n (hs k)),(a+5,kPz n t (t+1) (t+2) ln ar fl (.ref a) 181 (.ref (a+1)) (.ref (a+2)) (.ref (a+3)) (.ref (a+4)) (t+3+ns.length) ln (t+4+ns.length)),(a+6,fP n (hs k) .none (vS m s) (a+5))]
def qB (a t:Nat) (n:String) (k ln ar fl:Nat) (m:String) (s:Tok):List (Nat×Obj):=[(a,tO #[]),(a+1,nF #[]),(a+2,gP n (hs k)),(a+3,kPz n t (t+1) (t+2) ln ar fl (.ref a) 181 (.ref (a+1)) .none .none (.ref (a+2)) (t+3) ln (t+4)),(a+4,fP n (hs k) .none (vS m s) (a+3))]
noncomputable def hT1:Params->PySem.W.BT:=λP=>hI (hT0 P) ((11,tO #[]) :: (12,nF #[]) :: (13,(⟨(.type "code"),none,(.fields #[(vS "<module>" 182),(vS "<module>" 183),(vS "/claim/cut.py" 184),(.int 1 0),(.int 0 0),(.int 0 0),(.int 0 0),(.int 0 0),(.ref 11),(.bool false),(.int 181 0),(.ref 12),.none,.none,.none,.none,(.int 185 0),(.int 1 0),(vS "/claim/cut.py" 186)]),#[]⟩:Obj)) :: (14,(⟨(.type "frame"),none,.plain,#[(some (.ref 13)),(some (.ref 3)),(some (.ref 3)),none,(some (vS "__main__" 164)),none,(some (.ref 0))]⟩:Obj)) ::
 [])
noncomputable abbrev hX1 (w:World) (os:OsState):PySem.W.SharedT:=⟨hT1 w.params,15,{ },⟨[]⟩,{ },187,os⟩
noncomputable abbrev hX2 (w:World) (os:OsState):PySem.W.SharedT:=⟨hT1 w.params,15,{ },⟨[]⟩,{ },187,os⟩
def hD3:Params->List DictEntry:=λP=>[eS P "__name__" 165 (vS "law_struckdeeds_k24_whole_touching_by_worlds" 255),eS P "__doc__" 166 .none,eS P "__package__" 167 .none,eS P "__loader__" 168 (.builtin "__main__.__loader__#opaque"),eS P "__spec__" 169 .none,eS P "__annotations__" 170 (.ref 6),eS P "__builtins__" 171 (.ref 4),eS P "__file__" 173 (vS "/claim/cut.py" 172),eS P "__cached__" 174 .none,eS P "FORMS" 210 (.ref 15),eS P "form_of" 217 (.ref 22),eS P "names_in" 224 (.ref 29),eS P "ADDING" 230 (.ref 30),eS P "touch" 236 (.ref 35),eS P "may_share" 246 (.ref 42),eS P "use_of" 254 (.ref 49),eS P "_law_mixed" 263 (.ref 56),eS P "_law_pack" 271 (.ref 63),eS P "_law_take" 280 (.ref 70),eS P "_law_names" 286 (.ref 75),eS P "_law_any_deed" 300 (.ref 82),eS P "_law_named" 307 (.ref 89),eS P "_law_made" 314 (.ref 96),eS P "_law_can" 320 (.ref 101),eS P "_law_do" 333 (.ref 108),eS P "_law_done" 342 (.ref 115),eS P "_law_back" 352 (.ref 122),eS P "_law_worlds" 364 (.ref 129),eS P "_law_backs" 374 (.ref 136),eS P "_law_same" 385 (.ref 143)]
noncomputable def hT3:Params->PySem.W.BT:=λP=>hI (hT1 P) ((3,(⟨.type "dict", none,.dict (hD3 P).toArray 30,#[]⟩:Obj)) :: (12,lF [(3,0,21),(5,0,28),(9,0,34),(11,0,41),(14,0,48),(19,0,55),(21,0,62),(25,0,69),(28,0,74),(39,0,81),(57,0,88),(59,0,95),(65,0,100),(67,0,107),(88,0,114),(92,0,121),(107,0,128),(117,0,135),(123,0,142)]) :: (15,(⟨(.type "dict"),none,(.dict #[eS P "put" 189 (vS "npk" 190),eS P "take" 191 (vS "n" 192),eS P "move" 193 (vS "np" 194),eS P "count" 195 (vS "nk" 196),eS P "name" 197 (vS "nn" 198),eS P "split" 199 (vS "nnpk" 200),eS P "join" 201 (vS "nn" 202)] 7),#[]⟩:Obj)) ::
 qA 16 211 "form_of" 2 3 1 3 ["word"] "struckdeeds.deeds" 187 ++
 (qA 23 218 "names_in" 3 5 1 3 ["deed"] "struckdeeds.deeds" 187 ++
 ((30,tO #[(vS "count" 227),(vS "split" 228),(vS "join" 229)]) ::
 qB 31 231 "touch" 6 9 2 3 "struckdeeds.touches" 225 ++
 (qA 36 237 "may_share" 7 11 3 3 ["one", "other", "name", "uses"] "struckdeeds.touches" 225 ++
 (qA 43 247 "use_of" 8 14 2 3 ["deed", "name"] "struckdeeds.touches" 225 ++
 (qA 50 257 "_law_mixed" 10 19 1 3 ["_law_cell"] "law_struckdeeds_k24_whole_touching_by_worlds" 255 ++
 (qA 57 264 "_law_pack" 11 21 2 3 ["_law_script", "_law_k"] "law_struckdeeds_k24_whole_touching_by_worlds" 255 ++
 (qA 64 272 "_law_take" 12 25 2 3 ["_law_pack_here", "_law_size", "_law_digit"] "law_struckdeeds_k24_whole_touching_by_worlds" 255 ++
 (qB 71 281 "_law_names" 13 28 2 3 "law_struckdeeds_k24_whole_touching_by_worlds" 255 ++
 (qA 76 287 "_law_any_deed" 14 39 2 3 ["_law_pack_here", "_law_names_here", "_law_kind", "_law_at", "_law_one", "_law_other", "_law_place", "_law_number"] "law_struckdeeds_k24_whole_touching_by_worlds" 255 ++
 (qA 83 301 "_law_named" 15 57 1 3 ["_law_deed"] "law_struckdeeds_k24_whole_touching_by_worlds" 255 ++
 (qA 90 308 "_law_made" 16 59 1 3 ["_law_deed"] "law_struckdeeds_k24_whole_touching_by_worlds" 255 ++
 (qB 97 315 "_law_can" 17 65 2 3 "law_struckdeeds_k24_whole_touching_by_worlds" 255 ++
 (qA 102 321 "_law_do" 18 67 2 3 ["_law_world", "_law_deed", "_law_found", "_law_word", "_law_one", "_law_place", "_law_count"] "law_struckdeeds_k24_whole_touching_by_worlds" 255 ++
 (qA 109 334 "_law_done" 19 88 2 3 ["_law_world", "_law_row", "_law_deed"] "law_struckdeeds_k24_whole_touching_by_worlds" 255 ++
 (qA 116 343 "_law_back" 20 92 2 3 ["_law_world", "_law_deed", "_law_word", "_law_one"] "law_struckdeeds_k24_whole_touching_by_worlds" 255 ++
 (qA 123 353 "_law_worlds" 21 107 1 3 ["_law_names_here", "_law_found", "_law_k", "_law_more", "_law_world", "_law_wider"] "law_struckdeeds_k24_whole_touching_by_worlds" 255 ++
 (qA 130 365 "_law_backs" 22 117 2 3 ["_law_world", "_law_row", "_law_found", "_law_deed"] "law_struckdeeds_k24_whole_touching_by_worlds" 255 ++
 (qA 137 375 "_law_same" 23 123 3 3 ["_law_world", "_law_one", "_law_other", "_law_first", "_law_second"] "law_struckdeeds_k24_whole_touching_by_worlds" 255 ++
 ([]))))))))))))))))))))
noncomputable abbrev hX3 (w:World) (os:OsState):PySem.W.SharedT:=⟨hT3 w.params,144,{ },⟨[]⟩,{ },386,os⟩
def hD4:Params->List DictEntry:=λP=>hD3 P++[eS P "_law_right" 391 (.ref 148),eS P "law" 402 (.ref 155)]
noncomputable def hT4:Params->PySem.W.BT:=λP=>hI (hT3 P) ((3,(⟨.type "dict", none,.dict (hD4 P).toArray 32,#[]⟩:Obj)) :: (12,lF [(3,0,21),(5,0,28),(9,0,34),(11,0,41),(14,0,48),(19,0,55),(21,0,62),(25,0,69),(28,0,74),(39,0,81),(57,0,88),(59,0,95),(65,0,100),(67,0,107),(88,0,114),(92,0,121),(107,0,128),(117,0,135),(123,0,142),(128,0,147),(136,0,154)]) ::
 qB 144 386 "_law_right" 24 128 3 3 "law_struckdeeds_k24_whole_touching_by_worlds" 255 ++
 (qA 149 392 "law" 25 136 1 3 ["_law_script", "_law_k", "_law_pack_here", "_law_names_here", "_law_turn"] "law_struckdeeds_k24_whole_touching_by_worlds" 255 ++
 ([])))
noncomputable abbrev hX4 (w:World) (os:OsState):PySem.W.SharedT:=⟨hT4 w.params,156,{ },⟨[]⟩,{ },403,os⟩
noncomputable abbrev hX5 (w:World) (os:OsState):PySem.W.SharedT:=⟨hT4 w.params,156,{ },⟨[]⟩,{ },403,os⟩
noncomputable def hg (P:Params) (a:Nat):Obj:=((hT4 P).get a).getD default
noncomputable def hK:Params->PySem.W.Frag:=λP=>
 (nat_lit 2,hg P 2) ::
 (nat_lit 3,hg P 3) ::
 (nat_lit 15,(⟨(.type "dict"),none,(.dict #[eS P "put" 189 (vS "npk" 190),eS P "take" 191 (vS "n" 192),eS P "move" 193 (vS "np" 194),eS P "count" 195 (vS "nk" 196),eS P "name" 197 (vS "nn" 198),eS P "split" 199 (vS "nnpk" 200),eS P "join" 201 (vS "nn" 202)] 7),#[]⟩:Obj)) ::
 (nat_lit 21,hg P 21) ::
 (nat_lit 22,fP "form_of" FG .none (vS "struckdeeds.deeds" 187) 21) ::
 (nat_lit 28,hg P 28) ::
 (nat_lit 29,fP "names_in" EC .none (vS "struckdeeds.deeds" 187) 28) ::
 (nat_lit 30,tO #[(vS "count" 227),(vS "split" 228),(vS "join" 229)]) ::
 (nat_lit 34,hg P 34) ::
 (nat_lit 35,fP "touch" GH .none (vS "struckdeeds.touches" 225) 34) ::
 (nat_lit 41,hg P 41) ::
 (nat_lit 42,fP "may_share" D7 .none (vS "struckdeeds.touches" 225) 41) ::
 (nat_lit 48,hg P 48) ::
 (nat_lit 49,fP "use_of" GG .none (vS "struckdeeds.touches" 225) 48) ::
 (nat_lit 55,hg P 55) ::
 (nat_lit 56,fP "_law_mixed" CI .none (vS "law_struckdeeds_k24_whole_touching_by_worlds" 255) 55) ::
 (nat_lit 62,hg P 62) ::
 (nat_lit 63,fP "_law_pack" D8 .none (vS "law_struckdeeds_k24_whole_touching_by_worlds" 255) 62) ::
 (nat_lit 69,hg P 69) ::
 (nat_lit 70,fP "_law_take" D9 .none (vS "law_struckdeeds_k24_whole_touching_by_worlds" 255) 69) ::
 (nat_lit 74,hg P 74) ::
 (nat_lit 75,fP "_law_names" BC .none (vS "law_struckdeeds_k24_whole_touching_by_worlds" 255) 74) ::
 (nat_lit 81,hg P 81) ::
 (nat_lit 82,fP "_law_any_deed" BG .none (vS "law_struckdeeds_k24_whole_touching_by_worlds" 255) 81) ::
 (nat_lit 88,hg P 88) ::
 (nat_lit 89,fP "_law_named" CJ .none (vS "law_struckdeeds_k24_whole_touching_by_worlds" 255) 88) ::
 (nat_lit 95,hg P 95) ::
 (nat_lit 96,fP "_law_made" DB .none (vS "law_struckdeeds_k24_whole_touching_by_worlds" 255) 95) ::
 (nat_lit 100,hg P 100) ::
 (nat_lit 101,fP "_law_can" CT .none (vS "law_struckdeeds_k24_whole_touching_by_worlds" 255) 100) ::
 (nat_lit 107,hg P 107) ::
 (nat_lit 108,fP "_law_do" FH .none (vS "law_struckdeeds_k24_whole_touching_by_worlds" 255) 107) ::
 (nat_lit 114,hg P 114) ::
 (nat_lit 115,fP "_law_done" DC .none (vS "law_struckdeeds_k24_whole_touching_by_worlds" 255) 114) ::
 (nat_lit 121,hg P 121) ::
 (nat_lit 122,fP "_law_back" DD .none (vS "law_struckdeeds_k24_whole_touching_by_worlds" 255) 121) ::
 (nat_lit 128,hg P 128) ::
 (nat_lit 129,fP "_law_worlds" BZ .none (vS "law_struckdeeds_k24_whole_touching_by_worlds" 255) 128) ::
 (nat_lit 135,hg P 135) ::
 (nat_lit 136,fP "_law_backs" CK .none (vS "law_struckdeeds_k24_whole_touching_by_worlds" 255) 135) ::
 (nat_lit 142,hg P 142) ::
 (nat_lit 143,fP "_law_same" DF .none (vS "law_struckdeeds_k24_whole_touching_by_worlds" 255) 142) ::
 (nat_lit 147,hg P 147) ::
 (nat_lit 148,fP "_law_right" BS .none (vS "law_struckdeeds_k24_whole_touching_by_worlds" 255) 147) ::
 (nat_lit 154,hg P 154) ::
 (nat_lit 155,fP "law" PN .none (vS "law_struckdeeds_k24_whole_touching_by_worlds" 255) 154)::[]
def hA:List Addr:=[2,3,15,21,22,28,29,30,34,35,41,42,48,49,55,56,62,63,69,70,74,75,81,82,88,89,95,96,100,101,107,108,114,115,121,122,128,129,135,136,142,143,147,148,154,155]
theorem hE:∀P,hA=(hK P).map (·.1):=λ_=>by kernel_rfl
theorem hp1 (w:World):(λos=>PySem.W.topGo treeTable PySem.Challenge.pw_struckdeeds_k24_whole_touching_by_worlds w 11 (a2J (a0X 6)) 12 ⟨a2Z w.params,⟨[]⟩,a8Q,a9X,os⟩ (PySem.W.topStub PySem.Challenge.pw_struckdeeds_k24_whole_touching_by_worlds))=λos=>some ((hX1 w os).abs,⟨denote treeTable hC,hC,{ line:=0,col:=0,endLine:=0,endCol:=0 },hF⟩):=by kernel_rfl
theorem hp2 (w:World):(λos=>a7W treeTable PySem.Challenge.pw_struckdeeds_k24_whole_touching_by_worlds w 11 (a2J (a0X 6)) 1 1 (hX1 w os) (PySem.W.blockOf hB hN hC { line:=0,col:=0,endLine:=0,endCol:=0 } hF))=λos=>some (.next,hX2 w os,hC,{ line:=0,col:=0,endLine:=0,endCol:=0 }):=by kernel_rfl
def hQ3:List Stmt:=(hB.drop 0).take 24
abbrev dG (w:World):Prop:=(λos=>a7W treeTable PySem.Challenge.pw_struckdeeds_k24_whole_touching_by_worlds w 11 (a2J (a0X 6)) 1 735 (hX2 w os) (a9W hQ3 hN hC { line:=0,col:=0,endLine:=0,endCol:=0 } hF))=λos=>some (.next,hX3 w os,hC,{ line:=123,col:=0,endLine:=127,endCol:=137 })
theorem RB (w:World):(λos=>a7W treeTable PySem.Challenge.pw_struckdeeds_k24_whole_touching_by_worlds (w.withFollow "special-get-raises" false) 11 (a2J (a0X 6)) 1 735 (hX2 (w.withFollow "special-get-raises" false) os) (a9W hQ3 hN hC { line:=0,col:=0,endLine:=0,endCol:=0 } hF))=λos=>some (.next,hX3 (w.withFollow "special-get-raises" false) os,hC,{ line:=123,col:=0,endLine:=127,endCol:=137 }):=by kernel_rfl
theorem U9 (w:World):(λos=>a7W treeTable PySem.Challenge.pw_struckdeeds_k24_whole_touching_by_worlds (w.withFollow "special-get-raises" true) 11 (a2J (a0X 6)) 1 735 (hX2 (w.withFollow "special-get-raises" true) os) (a9W hQ3 hN hC { line:=0,col:=0,endLine:=0,endCol:=0 } hF))=λos=>some (.next,hX3 (w.withFollow "special-get-raises" true) os,hC,{ line:=123,col:=0,endLine:=127,endCol:=137 }):=by kernel_rfl
theorem hp3:∀w:World,dG w:=PySem.W.byRow2 "special-get-raises" RB U9
def hQ4:List Stmt:=(hB.drop 24).take 2
theorem hp4 (w:World):(λos=>a7W treeTable PySem.Challenge.pw_struckdeeds_k24_whole_touching_by_worlds w 11 (a2J (a0X 6)) 1 60 (hX3 w os) (a9W hQ4 hN hC { line:=123,col:=0,endLine:=127,endCol:=137 } hF))=λos=>some (.next,hX4 w os,hC,{ line:=136,col:=0,endLine:=143,endCol:=15 }):=by kernel_rfl
theorem hp5 (w:World):(λos=>a4V treeTable PySem.Challenge.pw_struckdeeds_k24_whole_touching_by_worlds w 11 (a2J (a0X 6)) 2 (hX4 w os).abs (PySem.W.restOf [] hN hC { line:=136,col:=0,endLine:=143,endCol:=15 } hF))=λos=>some (hX5 w os).abs:=by kernel_rfl
theorem hR1:hB=(hQ3++(hQ4++[])):=by kernel_rfl
theorem hr5 (w:World) (os:OsState):a4V treeTable PySem.Challenge.pw_struckdeeds_k24_whole_touching_by_worlds w 11 (a2J (a0X 6)) 2 (hX4 w os).abs (PySem.W.restOf [] hN hC { line:=136,col:=0,endLine:=143,endCol:=15 } hF)=some (hX5 w os).abs:=congrFun (hp5 w) os
theorem hr4 (w:World) (os:OsState):a4V treeTable PySem.Challenge.pw_struckdeeds_k24_whole_touching_by_worlds w 11 (a2J (a0X 6)) (60+2) (hX3 w os).abs (PySem.W.restOf (hQ4++[]) hN hC { line:=123,col:=0,endLine:=127,endCol:=137 } hF)=some (hX5 w os).abs:=PySem.W.piece_app (n:=60) (N:=2) (s:=(hX3 w os).abs) (s':=(hX4 w os).abs) (r:=(hX5 w os).abs) (l:=hQ4) (rest:=[]) (c:=hC) (pos:={ line:=123,col:=0,endLine:=127,endCol:=137 }) (p':={ line:=136,col:=0,endLine:=143,endCol:=15 }) (env:=hN) (q:={ line:=0,col:=0,endLine:=0,endCol:=0 }) (PySem.W.segRun_of (congrFun (hp4 w) os)) (hr5 w os)
theorem hr3 (w:World) (os:OsState):a4V treeTable PySem.Challenge.pw_struckdeeds_k24_whole_touching_by_worlds w 11 (a2J (a0X 6)) (735+(60+2)) (hX2 w os).abs (PySem.W.restOf (hQ3++(hQ4++[])) hN hC { line:=0,col:=0,endLine:=0,endCol:=0 } hF)=some (hX5 w os).abs:=PySem.W.piece_app (n:=735) (N:=(60+2)) (s:=(hX2 w os).abs) (s':=(hX3 w os).abs) (r:=(hX5 w os).abs) (l:=hQ3) (rest:=(hQ4++[])) (c:=hC) (pos:={ line:=0,col:=0,endLine:=0,endCol:=0 }) (p':={ line:=123,col:=0,endLine:=127,endCol:=137 }) (env:=hN) (q:={ line:=0,col:=0,endLine:=0,endCol:=0 }) (PySem.W.segRun_of (congrFun (hp3 w) os)) (hr4 w os)
theorem hr2 (w:World) (os:OsState):a4V treeTable PySem.Challenge.pw_struckdeeds_k24_whole_touching_by_worlds w 11 (a2J (a0X 6)) (1+(735+(60+2))) (hX1 w os).abs ⟨denote treeTable hC,hC,{ line:=0,col:=0,endLine:=0,endCol:=0 },hF⟩=some (hX5 w os).abs:=PySem.W.piece_block (n:=1) (N:=(735+(60+2))) (s:=(hX1 w os).abs) (s':=(hX2 w os).abs) (r:=(hX5 w os).abs) (b:=hB) (env:=hN) (c:=hC) (pos:={ line:=0,col:=0,endLine:=0,endCol:=0 }) (p':={ line:=0,col:=0,endLine:=0,endCol:=0 }) (q:={ line:=0,col:=0,endLine:=0,endCol:=0 }) (PySem.W.segRun_of (congrFun (hp2 w) os)) (by rw[hR1];exact hr3 w os)
noncomputable def hH:Params->Heap:=λP=>PySem.W.absHeap (hT4 P) 156 { }
theorem hr1 (w:World) (os:OsState):a4V treeTable PySem.Challenge.pw_struckdeeds_k24_whole_touching_by_worlds w 11 (a2J (a0X 6)) (12+(1+(735+(60+2)))) ⟨a2Z w.params,⟨[]⟩,a8Q,a9X,os⟩ (PySem.W.topStub PySem.Challenge.pw_struckdeeds_k24_whole_touching_by_worlds)=some (hX5 w os).abs:=PySem.W.go_top (n:=12) (N:=(1+(735+(60+2)))) (s':=(hX1 w os).abs) (t':=⟨denote treeTable hC,hC,{ line:=0,col:=0,endLine:=0,endCol:=0 },hF⟩) (congrFun (hp1 w) os) (hr2 w os)
theorem hR (w:World) (os:OsState):a4V treeTable PySem.Challenge.pw_struckdeeds_k24_whole_touching_by_worlds w 11 (a2J (a0X 6)) (12+(1+(735+(60+2)))) ⟨a2Z w.params,⟨[]⟩,a8Q,a9X,os⟩ (PySem.W.topStub PySem.Challenge.pw_struckdeeds_k24_whole_touching_by_worlds)=some ⟨hH w.params,⟨[]⟩,{ },403,os⟩:=(hr1 w os).trans (by kernel_rfl)
theorem hZ (w:World):(λos=>((PySem.W.staticsOk (PySem.importedModules PySem.Challenge.pw_struckdeeds_k24_whole_touching_by_worlds.main.body) (a2Z w.params) (hH w.params)&&PySem.W.namesBound PySem.Challenge.pw_struckdeeds_k24_whole_touching_by_worlds (hH w.params)&&PySem.W.gensDone ⟨hH w.params,⟨[]⟩,{ },403,os⟩&&PySem.W.laidKept (a2Z w.params) (hH w.params)),PySem.W.openSeen hV [a0Q "FORMS"] (PySem.importedModules PySem.Challenge.pw_struckdeeds_k24_whole_touching_by_worlds.main.body) (λs=>PySem.W.xlAt hV [] s&&PySem.W.recOk (a6V (a5X (a7Q PySem.Challenge.rw_struckdeeds_k24_whole_touching_by_worlds))) s) true ⟨hH w.params,⟨[]⟩,{ },403,os⟩,a8W (a3Q hK hA hE) ⟨hH w.params,⟨[]⟩,{ },403,os⟩))=λ_=>(true,PySem.W.openGood hV [a0Q "FORMS"],a8K (a3Q hK hA hE) w):=by kernel_rfl
theorem hO:PySem.W.opening PySem.Challenge.pw_struckdeeds_k24_whole_touching_by_worlds=PySem.W.plainProg PySem.Challenge.pw_struckdeeds_k24_whole_touching_by_worlds.main.scope.names:=by kernel_rfl
theorem hG (w:World):((a2Z w.params).isNs mainGlobals&&(⟨[]⟩:Array GenState).size==0,(a2Z w.params).objs.size,(a2Z w.params).nsMap mainGlobals (a0Q "__annotations__"))=(true,11,a2J (a0X 6)):=by kernel_rfl
theorem hJ (s:Shared):PySem.fenceModules? PySem.Challenge.pw_struckdeeds_k24_whole_touching_by_worlds s=some s:=by kernel_rfl
theorem hL:PySem.W.LeftO PySem.Challenge.pw_struckdeeds_k24_whole_touching_by_worlds hV [a0Q "FORMS"] (λs=>PySem.W.xlAt hV [] s&&PySem.W.recOk (a6V (a5X (a7Q PySem.Challenge.rw_struckdeeds_k24_whole_touching_by_worlds))) s) (a8W (a3Q hK hA hE)) (a8K (a3Q hK hA hE)) 1712:=
 @PySem.W.LeftO.of_pieces PySem.Challenge.pw_struckdeeds_k24_whole_touching_by_worlds hV [a0Q "FORMS"] (λs=>PySem.W.xlAt hV [] s&&PySem.W.recOk (a6V (a5X (a7Q PySem.Challenge.rw_struckdeeds_k24_whole_touching_by_worlds))) s) _ (a8W (a3Q hK hA hE)) (a8K (a3Q hK hA hE)) 1712 true a2Z hH ⟨[]⟩ ⟨[]⟩ a8Q { } a9X 403 11 (a2J (a0X 6)) (12+(1+(735+(60+2)))) (PySem.W.boot_open hO (by decide) hJ) hG hR (by decide) hZ
theorem hS:PySem.W.OpenLaw.wellSaid PySem.Challenge.rw_struckdeeds_k24_whole_touching_by_worlds=true:=by kernel_rfl
set_option hygiene false
local macro_rules | `(tactic| walk_at "lc")=>`(tactic| first | exact Or.inl rfl | exact Or.inr rfl | exact Or.inr (Or.inl rfl) | exact Or.inr (Or.inr rfl))
local macro_rules | `(tactic| walk_at "or")=>`(tactic| first | exact .inl rfl | exact .inr rfl | assumption)
local macro_rules | `(tactic| walk_at "q")=>`(tactic| first | ((with_reducible show PSs _ [] _);exact @UF _) | ((with_reducible show PSs _ [_] _);exact @OM _ _ _ (by walk_at "s")) | ((with_reducible show PSs _ (_::_) _);exact @LZ _ _ _ _ _ (by walk_at "s") (by walk_at "q")))
local macro_rules | `(tactic| walk_at "s")=>`(tactic| first | ((with_reducible show PS _ (.Assign [.Name ..] ..) _);exact @XS _ _ _ _ _ _ _ (by assumption) (O6 (by rfl)) (by walk_at "lc") (by walk_at "e") (by rfl) (by walk_at "or")) | ((with_reducible show PS _ (.If ..) _);first | walk_at "z" | exact @aL _ _ _ _ _ _ _ _ (by walk_at "t") (by walk_at "q") (by walk_at "q")) | ((with_reducible show PS _ (.Return (some _) _) _);exact @XN _ _ _ _ (by walk_at "e")) | ((with_reducible show PS _ (.For ..) _);exact @XU _ _ _ _ _ _ _ _ PassesOwn.never rfl (by walk_at "n") (by walk_at "g") (by walk_at "q") (by intro _;rfl)) | ((with_reducible show PS _ (.Expr ..) _);exact @UG _ _ _ _ (by walk_at "e") (by rfl)) | walk_at "x")
local macro_rules | `(tactic| walk_at "e")=>`(tactic| first | ((with_reducible show PE _ (.Name ..) _);first | exact @pvx _ _ _ _ (by rfl) (by walk_at "lc") (by decide) (by decide) | exact @E3 _ _ (.ty "int") _ _ (by rfl) (by assumption) PyProof.Rows.boot_int rfl (by decide) (by decide) | exact @E3 _ _ (.ty "str") _ _ (by rfl) (by assumption) PyProof.Rows.boot_str rfl (by decide) (by decide) | exact @E3 _ _ (.ty "bool") _ _ (by rfl) (by assumption) PyProof.Rows.boot_bool rfl (by decide) (by decide) | exact @E3 _ _ (.ty "list") _ _ (by rfl) (by assumption) PyProof.Rows.boot_list rfl (by decide) (by decide) | exact @E3 _ _ (.ty "tuple") _ _ (by rfl) (by assumption) PyProof.Rows.boot_tuple rfl (by decide) (by decide) | exact @E3 _ _ (.ty "dict") _ _ (by rfl) (by assumption) a9Q rfl (by decide) (by decide) | exact @E3 _ _ (.ty "ValueError") _ _ (by rfl) (by assumption) PyProof.Rows.boot_ValueError rfl (by decide) (by decide)) | ((with_reducible show PE _ (.ListComp ..) _);exact @UX _ _ _ _ _ _ _ _ _ _ _ _ _ rfl (by walk_at "cs") (by walk_at "n") (λC s' H' jz g6=>⟨(by walk_at "g"),(by walk_at "u"),(by walk_at "e")⟩) (by intro _;rfl)) | ((with_reducible show PE _ (.Constant ..) _);first | ((with_reducible show PE _ (.Constant (.int _) ..) _);exact @XB _ _ _ _) | ((with_reducible show PE _ (.Constant (.str _) ..) _);exact @XD _ _ _ _) | ((with_reducible show PE _ (.Constant (.bool _) ..) _);exact @aF _ _ _ _) | ((with_reducible show PE _ (.Constant .none ..) _);exact @XC _ _ _)) | ((with_reducible show PE _ (.Call ..) _);first | walk_at "y" | ((with_reducible show PE _ (.Call (.Name (a0Q "len") _) ..) _);exact @C0 _ _ _ _ _ _ _ _ _ (@cZ _ K rfl) (by rfl) (by assumption) PySem.boot_len (by walk_at "a") (by decide) (by decide) (by rfl) (by rfl)) | ((with_reducible show PE _ (.Call (.Name (a0Q "isinstance") _) ..) _);exact @C0 _ _ _ _ _ _ _ _ _ (@d5 _ K rfl) (by rfl) (by assumption) PyProof.Rows.boot_isinstance (by walk_at "a") (by decide) (by decide) (by rfl) (by rfl)) | ((with_reducible show PE _ (.Call (.Name (a0Q "all") _) ..) _);exact @C0 _ _ _ _ _ _ _ _ _ (@d3 _ K rfl rfl) (by rfl) (by assumption) PyProof.Rows.boot_all (by walk_at "a") (by decide) (by decide) (by rfl) (by rfl)) | ((with_reducible show PE _ (.Call (.Name (a0Q "any") _) ..) _);exact @C0 _ _ _ _ _ _ _ _ _ (@d4 _ K rfl rfl) (by rfl) (by assumption) PyProof.Rows.boot_any (by walk_at "a") (by decide) (by decide) (by rfl) (by rfl)) | ((with_reducible show PE _ (.Call (.Name (a0Q "max") _) ..) _);exact @C0 _ _ _ _ _ _ _ _ _ (@dA _ K rfl rfl) (by rfl) (by assumption) PyProof.Rows.boot_max (by walk_at "a") (by decide) (by decide) (by rfl) (by rfl)) | ((with_reducible show PE _ (.Call (.Name (a0Q "min") _) ..) _);exact @C0 _ _ _ _ _ _ _ _ _ (@dB _ K rfl rfl) (by rfl) (by assumption) PyProof.Rows.boot_min (by walk_at "a") (by decide) (by decide) (by rfl) (by rfl)) | ((with_reducible show PE _ (.Call (.Name (a0Q "divmod") _) ..) _);exact @C0 _ _ _ _ _ _ _ _ _ (@VR _ K rfl) (by rfl) (by assumption) PyProof.Rows.boot_divmod (by walk_at "a") (by decide) (by decide) (by rfl) (by rfl)) | ((with_reducible show PE _ (.Call (.Name (a0Q "int") _) ..) _);exact @F3 _ _ _ _ _ _ _ _ _ (@dC _ K rfl) (by rfl) (by assumption) PyProof.Rows.boot_int (by walk_at "a") (by decide) (by decide) (by rfl) (by rfl)) | ((with_reducible show PE _ (.Call (.Name ..) ..) _);exact @c4 _ K P w mg base _ _ _ _ _ _ _ _ _ rfl rfl rfl rfl rfl (by with_reducible assumption) (hr.mono (by decide)) rfl (by walk_at "a") (by decide) (by rfl) (by rfl)) | ((with_reducible show PE _ (.Call (.Attribute _ (a0Q "append") _) ..) _);exact @kBm _ K _ _ _ _ _ _ _ _ _ _ _ rfl PySem.F.plainAttrs_list PySem.F.slot_list_append PySem.F.type_list_append (@SX _) (by walk_at "e") (by walk_at "a") (by rfl) (by rfl) (by rfl) (by rfl) (by rfl)) | walk_at "x") | ((with_reducible show PE _ (.BinOp ..) _);first | ((with_reducible show PE _ (.BinOp _ .Add ..) _);exact @FY _ _ _ _ _ _ _ _ (@c6 _ K rfl) (by walk_at "e") (by walk_at "e")) | ((with_reducible show PE _ (.BinOp _ .Sub ..) _);exact @FY _ _ _ _ _ _ _ _ (@XX _) (by walk_at "e") (by walk_at "e")) | ((with_reducible show PE _ (.BinOp _ .Mod ..) _);exact @FY _ _ _ _ _ _ _ _ (@XY _) (by walk_at "e") (by walk_at "e")) | ((with_reducible show PE _ (.BinOp _ .FloorDiv ..) _);exact @FY _ _ _ _ _ _ _ _ (@S1 _) (by walk_at "e") (by walk_at "e")) | ((with_reducible show PE _ (.BinOp _ .Pow ..) _);exact @FY _ _ _ _ _ _ _ _ (@XZ _) (by walk_at "e") (by walk_at "e"))) | ((with_reducible show PE _ (.Compare ..) _);first | walk_at "y" | ((with_reducible show PE _ (.Compare _ [.Eq] ..) _);exact @BX _ _ _ _ _ _ _ _ (@kEq _ K rfl hu) (by walk_at "e") (by walk_at "e") (@DH _ _ (by decide) (by decide))) | ((with_reducible show PE _ (.Compare _ [.NotEq] ..) _);exact @BX _ _ _ _ _ _ _ _ (@kNe _ K rfl hu) (by walk_at "e") (by walk_at "e") (@DH _ _ (by decide) (by decide))) | ((with_reducible show PE _ (.Compare _ [.Lt] ..) _);exact @BX _ _ _ _ _ _ _ _ (@S8 _) (by walk_at "e") (by walk_at "e") (@DH _ _ (by decide) (by decide))) | ((with_reducible show PE _ (.Compare _ [.Is] ..) _);exact @BX _ _ _ _ _ _ _ _ (@T4 _) (by walk_at "e") (by walk_at "e") (@DH _ _ (by decide) (by decide)))) | ((with_reducible show PE _ (.Subscript ..) _);first | ((with_reducible show PE _ (.Subscript _ (.Slice _ _ none _) _) _);exact @RM _ _ _ _ _ _ _ _ _ _ (@d6 _ K rfl) (by walk_at "e") (by walk_at "o") (by walk_at "o")) | walk_at "y" | exact @aZ _ _ _ _ _ _ _ (@kIx _ K rfl) (by walk_at "e") (by walk_at "e") (λ_ _=>rfl)) | ((with_reducible show PE _ (.Tuple ..) _);exact @Y5 _ _ _ _ _ (by walk_at "a")) | ((with_reducible show PE _ (.List ..) _);exact @Y6 _ _ _ _ (by walk_at "a")) | ((with_reducible show PE _ (.IfExp ..) _);exact @RG _ _ _ _ _ _ _ _ (by walk_at "t") (by walk_at "e") (by walk_at "e")) | ((with_reducible show PE _ (.BoolOp ..) _);first | ((with_reducible show PE _ (.BoolOp _ [_] _) _);exact @XH _ _ _ _ _ (by walk_at "e")) | exact @XJ _ _ _ _ _ _ _ (by walk_at "e") (by walk_at "e")) | ((with_reducible show PE _ (.UnaryOp ..) _);first | ((with_reducible show PE _ (.UnaryOp .Not ..) _);exact @XM _ _ _ _ (by walk_at "e")) | exact @aR _ _ _ _ _ _ (@Y0 _) (by walk_at "e")) | walk_at "x")
local macro_rules | `(tactic| walk_at "t")=>`(tactic| first | ((with_reducible show PT _ (.Compare ..) _);first | walk_at "y" | ((with_reducible show PT _ (.Compare _ [.Eq] ..) _);exact @F2 _ _ _ _ _ _ _ _ (@kEq _ K rfl hu) (by walk_at "e") (by walk_at "e") (@DH _ _ (by decide) (by decide))) | ((with_reducible show PT _ (.Compare _ [.NotEq] ..) _);exact @F2 _ _ _ _ _ _ _ _ (@kNe _ K rfl hu) (by walk_at "e") (by walk_at "e") (@DH _ _ (by decide) (by decide))) | ((with_reducible show PT _ (.Compare _ [.Lt] ..) _);exact @F2 _ _ _ _ _ _ _ _ (@S8 _) (by walk_at "e") (by walk_at "e") (@DH _ _ (by decide) (by decide))) | ((with_reducible show PT _ (.Compare _ [.Is] ..) _);exact @F2 _ _ _ _ _ _ _ _ (@T4 _) (by walk_at "e") (by walk_at "e") (@DH _ _ (by decide) (by decide))) | walk_at "x") | ((with_reducible show PT _ (.BoolOp ..) _);exact @L2.PW.pt _ _ _ (by walk_at "w")) | ((with_reducible show PT _ (.UnaryOp .Not ..) _);exact @XG _ _ _ _ (by walk_at "t")) | exact @XF _ _ _ (by walk_at "e") (by intro _;rfl))
local macro_rules | `(tactic| walk_at "w")=>`(tactic| first | ((with_reducible show PW _ (.BoolOp .Or ..) _);first | ((with_reducible show PW _ (.BoolOp _ [_] _) _);exact @pw_or1 _ _ _ _ (by walk_at "t")) | exact @pw_or _ _ _ _ _ _ _ (by walk_at "t") (by walk_at "w")) | ((with_reducible show PW _ (.BoolOp _ [_] _) _);exact @pw_and1 _ _ _ _ (by walk_at "t")) | exact @pw_and _ _ _ _ _ _ _ (by walk_at "t") (by walk_at "w"))
local macro_rules | `(tactic| walk_at "a")=>`(tactic| first | ((with_reducible show PA _ [] _);exact @Y3 _) | exact @UL _ _ _ _ _ (by walk_at "e") (by walk_at "a") (by rfl))
local macro_rules | `(tactic| walk_at "o")=>`(tactic| first | ((with_reducible show PO _ none _);exact @UN _) | exact @UO _ _ _ (by walk_at "e"))
local macro_rules | `(tactic| walk_at "u")=>`(tactic| first | ((with_reducible show PTs _ [] _);exact @UW _))
local macro_rules | `(tactic| walk_at "n")=>`(tactic| first | ((with_reducible show PI _ _ (.Call ..) _);first | ((with_reducible show PI _ _ (.Call (.Name (a0Q "range") _) [_] ..) _);exact @PX _ _ _ _ _ _ rfl (by assumption) (by walk_at "a") (by rfl)) | walk_at "x") | walk_at "y" | exact @c3 _ K _ _ _ rfl (by walk_at "e"))
local macro_rules | `(tactic| walk_at "g")=>`(tactic| first | ((with_reducible show PG _ (.Name ..) _);exact @UH _ _ _ _ (by assumption) (O6 (by rfl)) (by walk_at "lc") (by walk_at "or")) | walk_at "x")
local macro_rules | `(tactic| walk_at "j")=>`(tactic| first | ((with_reducible show PGs _ [] _);exact @UI _) | exact @RI _ _ _ _ _ (by walk_at "g") (by walk_at "j") (by rfl))
local macro_rules | `(tactic| walk_at "b1")=>`(tactic| exact @OM _ _ _ (by walk_at "s"))
local macro_rules | `(tactic| walk_at "b2")=>`(tactic| exact @LZ _ _ _ _ _ (by walk_at "s") (by walk_at "q"))
local macro_rules | `(tactic| walk_at "dl")=>`(tactic| first
 | (with_reducible first | refine Z1 ?_ | refine dx_seq ?_ | refine S6 ?_ | refine ds_setc ?_ | refine S5 ?_ | refine bU ?_ | refine P0 ?_ | refine OZ ?_ | refine ds_setitem ?_ | refine T8 ?_ | refine dx_if ?_ | refine dx_raise1 ?_ | refine dx_raise0 ?_ | refine dx_drop (dex_call ?_) | refine dx_set (dex_call ?_) | refine dx_ret (dex_call ?_) | refine dx_lift (S6 ?_) | refine dx_lift (ds_setc ?_) | refine dx_lift (S5 ?_) | refine dx_lift (P0 ?_) | refine dx_lift (OZ ?_) | refine dx_lift (ds_setitem ?_) | refine dx_lift (T8 ?_))
 | ((with_reducible apply YQ);exact rfl)
 | (with_reducible first | refine YR ?_ | refine bM ?_ | refine YS ?_ | refine YT ?_ | refine bN ?_ | refine bO ?_ | refine bP ?_ | refine de_chain ?_ | refine V0 ?_ | refine cX ?_ | refine YU ?_ | refine bQ ?_ | refine YV ?_ | refine YW ?_ | refine YX ?_ | refine de_or ?_ | refine YY ?_ | refine bR ?_ | refine YZ ?_ | refine V1 ?_ | refine bS ?_ | refine Z0 ?_ | refine bT ?_ | refine V4 ?_ | refine V5 ?_ | refine VA ?_ | refine SN ?_ | refine VI ?_)
 | ((with_reducible refine dg_tup ?_ ?_);exact rfl)
 | ((with_reducible refine VV ?_ ?_);exact rfl)
 | (with_reducible first | refine bV ?_ | refine bW ?_ | refine cY ?_ | refine SR ?_ | refine VG ?_)
 | ((with_reducible refine bX ?_ ?_);(first
     | ((with_reducible show CMul _ _);first | exact cmul_r (by decide) (by decide) | exact L3 (by decide) (by decide) | exact L3 (by lia) (by lia))
     | ((with_reducible show WW _ _);first | exact⟨by decide,by decide⟩ | exact⟨by assumption,by assumption⟩)
     | ((with_reducible show aU _ _);exact⟨by decide,by decide,by decide⟩)
     | (show(0:Int) < _;first | decide | assumption | lia)))
 | ((with_reducible apply VF);(first | assumption | exact zU);exact rfl)
 | ((with_reducible apply d7);(first | assumption | exact zU);exact rfl)
 | ((with_reducible refine NX ?_ ?_);(first | exact CMul.ok (cmul_r (by decide) (by decide)) | exact CMul.ok (L3 (by decide) (by decide))))
 | (with_reducible first | refine d2_isB ?_ | refine d2_notB ?_ | refine ZO ?_ | refine ZP ?_ | refine VS ?_ | refine T0 ?_ | refine rd_abs ?_)
 | ((with_reducible refine SJ (b:=true) ?_ ?_);exact rfl)
 | ((with_reducible refine SJ (b:=false) ?_ ?_);exact rfl)
 | with_reducible refine V3 ?_
 | ((with_reducible apply d9);exact rfl;exact Nat.le_of_ble_eq_true rfl)
 | (with_reducible refine Exists.intro _ (And.intro rfl ?_))
 | (with_reducible refine L2.YL ?_)
 | (with_reducible refine L2.YK ?_)
 | (refine L2.YL ?_)
 | (refine L2.YK ?_))
local macro_rules | `(tactic| walk_at "r")=>`(tactic| repeat walk_at "dl")
local macro_rules | `(tactic| walk_at "wkd")=>`(tactic| repeat (first | walk_at "dl" | refine BI ?_ | refine P4 ?_))
local macro_rules | `(tactic| walk_at "wks")=>`(tactic| repeat ((fail_if_success (with_reducible show DSt _ _ _ _ _));(first | walk_at "dl" | refine BI ?_ | refine P4 ?_)))
section
variable {P:Program}{w:World}{K:Frg}{mg:Str->Option Value}{base:Heap}
def OH:List Str:=["word"]
theorem J9:FnScope OH ["word"] (AC FG):=⟨rfl,rfl,rfl,by decide +kernel,rfl,by decide +kernel,by decide +kernel⟩
section
local macro_rules | `(tactic| walk_at "x")=>`(tactic| first | ((with_reducible show PE _ (.Call (.Attribute _ (a0Q "get") _) ..) _);exact @VL _ _ _ _ _ _ _ _ rfl bx (by walk_at "e") (@L2.M1.mk _ _ _ _ _ _ rfl rfl rfl rfl) (by decide)))
theorem OI {f:Addr}{fd:FuncData}(F:Fun K "form_of" "form_of" FG f fd) (aq:mg "isinstance"=none) (fh:mg "str"=none) (bx:∃a,mg "FORMS"=some (.ref a)/\GDict w K a HF):FnOk P w K mg base CX0 1 f fd ["word"] (spD K 1 K9):=by
 refine fnD F J9 λcdv A outer s H E hr=>?_;have hu:=hr.units;have nd:=J9.nd;refine⟨_,by walk_at "b1", ?_⟩;clear nd;rintro xs M hl ⟨d,rfl,-⟩;cases d
 case str z=> walk_at "r";refine VM ?_;walk_at "r";exact⟨M,zT M,λd' e=>by cases e;exact⟨rfl,rfl⟩⟩
 all_goals
   walk_at "r";exact⟨M,zT M,λd' e=>by cases e;exact⟨rfl,rfl⟩⟩
end
def NE:List Str:=["deed"]
theorem HJ:FnScope NE ["deed"] (AC EC):=⟨rfl,rfl,rfl,by decide +kernel,rfl,by decide +kernel,by decide +kernel⟩
section
local macro_rules | `(tactic| walk_at "x")=>`(tactic| first | ((with_reducible show PE _ (.Call (.Attribute _ (a0Q "startswith") _) ..) _);exact @kBm _ K _ _ _ _ _ _ _ _ _ _ _ rfl PySem.F.plainAttrs_str PySem.F.slot_str_startswith PySem.F.type_str_startswith (@MN _ K rfl) (by walk_at "e") (by walk_at "a") (by rfl) (by rfl) (by rfl) (by rfl) (by rfl)))
theorem NF {f:Addr}{fd:FuncData}(F:Fun K "names_in" "names_in" EC f fd) (bw:Has P w K mg base "form_of" 1 ["word"] K9):FnOk P w K mg base CX0 2 f fd ["deed"] (spD K 1 IW):=by
 refine fnD F HJ λcdv A outer s H E hr=>?_;have hu:=hr.units;have nd:=HJ.nd;refine⟨_,by walk_at "b1", ?_⟩;clear nd;rintro xs M hl ⟨d,rfl,w,f,r,rfl,hf⟩;obtain⟨fa,fs,fn,_,_⟩:=O2 hf;have gj:X4 (.str w) = .str f:=by show ZM (HF.lookup w)=_;rw[hf];rfl
 walk_at "r";refine S4 ?_;walk_at "r";refine AM (d:=.str w) (AF (j:=0) rfl) ?_;walk_at "r";refine G3 trivial ?_;rw[gj];refine⟨V8,?_⟩;walk_at "r";refine QK ?_;rw[fn];cases htw:QO w with
 | true=> walk_at "r";refine AK ?_;rw[show BW (a0Z w::r) (some 1) (some 3)=r.take 2 from HW _ 1 3];exact⟨M,zT M,λd' e=>by cases e;refine⟨?_,rfl⟩;simp only[EO,htw];rfl⟩
 | false=> walk_at "r";refine AK ?_;rw[show BW (a0Z w::r) (some 1) (some 2)=r.take 1 from HW _ 1 2];exact⟨M,zT M,λd' e=>by cases e;refine⟨?_,rfl⟩;simp only[EO,htw];rfl⟩
end
def RC:List Str:=["deed", "name"]
theorem KC:FnScope RC ["deed", "name"] (AC GG):=⟨rfl,rfl,rfl,by decide +kernel,rfl,by decide +kernel,by decide +kernel⟩
section
local macro_rules | `(tactic| walk_at "x")=>`(tactic| first | ((with_reducible show PT _ (.Compare _ [.In] ..) _);exact @F2 _ _ _ _ _ _ _ _ (@kIn _ K rfl) (by walk_at "e") (by walk_at "e") (by with_unfolding_all rfl)) | ((with_reducible show PE _ (.Name ..) _);exact @VN _ _ _ _ rfl au.1 (by decide)))
theorem RD {f:Addr}{fd:FuncData}(F:Fun K "use_of" "use_of" GG f fd) {af:Addr}(au:mg "ADDING"=some (.ref af)/\ZL K af ["count", "split", "join"]):FnOk P w K mg base CX0 1 f fd ["deed", "name"] (spD K 2 MX):=by
 refine fnD F KC λcdv A outer s H E hr=>?_;have hu:=hr.units;have nd:=KC.nd;refine⟨_,by walk_at "b2", ?_⟩;clear nd;rintro xs M hl ⟨a,b,rfl,⟨D,rfl,hD⟩,n,rfl,hn⟩;rw[D.d_eq];walk_at "r";refine AM (d:=.str D.word) (AF (j:=0) rfl) ?_;walk_at "r";refine CB D.word_ok (by decide +kernel) ?_;rw[if_neg nft,BB];cases hm:(D.word==a0Q "move") with
 | true=> walk_at "r";refine⟨M,zT M,λa b e=>?_⟩;cases e;exact⟨by simp only[AJ,BE,hm];rfl,rfl⟩
 | false=>
   walk_at "r";refine AM (d:=.str D.word) (AF (j:=0) rfl) ?_;walk_at "r";refine VO au.2 ?_;refine L4 ?_;rw[cC];cases h3:(D.word==a0Q "count" || D.word==a0Q "split" || D.word==a0Q "join") with
   | false=> walk_at "r";refine⟨M,zT M,λa b e=>?_⟩;cases e;exact⟨by simp only[AJ,BE,hm,h3];rfl,rfl⟩
   | true=>
     walk_at "r";refine AM (d:=.str D.fst) (AF (j:=1) rfl) ?_;walk_at "r";refine CB (E8 (Deed.fst_ok hD)) (E8 hn) ?_;rw[if_neg nft,BB];cases hf:(D.fst==n) with
     | true=> walk_at "r";refine⟨M,zT M,λa b e=>?_⟩;cases e;exact⟨by simp only[AJ,BE,hm,h3,hf];rfl,rfl⟩
     | false=> walk_at "r";refine⟨M,zT M,λa b e=>?_⟩;cases e;exact⟨by simp only[AJ,BE,hm,h3,hf];rfl,rfl⟩
end
def LH:List Str:=["one", "other", "name", "uses"]
theorem GI:FnScope LH ["one", "other", "name"] (AC D7):=⟨rfl,rfl,rfl,by decide +kernel,rfl,by decide +kernel,by decide +kernel⟩
section
local macro_rules | `(tactic| walk_at "x")=>`(tactic| first | ((with_reducible show PE _ (.Compare _ [.In] ..) _);exact @BX _ _ _ _ _ _ _ _ (@kIn _ K rfl) (by walk_at "e") (by walk_at "e") (by with_unfolding_all rfl)) | ((with_reducible show PE _ (.Compare _ [.NotIn] ..) _);exact @BX _ _ _ _ _ _ _ _ (@ZG _ K rfl) (by walk_at "e") (by walk_at "e") (by with_unfolding_all rfl)))
theorem LI {f:Addr}{fd:FuncData}(F:Fun K "may_share" "may_share" D7 f fd) (cm:Has P w K mg base "use_of" 1 ["deed", "name"] MX):FnOk P w K mg base CX0 2 f fd ["one", "other", "name"] (spD K 3 HG):=by
 refine fnD F GI λcdv A outer s H E hr=>?_;have hu:=hr.units;have nd:=GI.nd;refine⟨_,by walk_at "b2", ?_⟩;clear nd;rintro xs M hl ⟨a,b,c,rfl,ha,hb,n,rfl,hn⟩;walk_at "r";refine IM ⟨ha,n,rfl,hn⟩ ?_;walk_at "r";refine IM ⟨hb,n,rfl,hn⟩ ?_;walk_at "r";refine L4 (ys:=[IU (AJ a n),IU (AJ b n)]) ?_;have key:=ZT _ _ (K8 a n) (K8 b n);cases h1:decide (a0Q "add" ∈ [IU (AJ a n),IU (AJ b n)]) with
 | false=> rw[h1,Bool.false_and] at key;walk_at "r";refine⟨M,zT M,λa b c e=>?_⟩;cases e;exact⟨by simp only[BE];rw[<-key],rfl⟩
 | true=> rw[h1,Bool.true_and] at key;walk_at "r";refine SZ (ys:=[IU (AJ a n),IU (AJ b n)]) ?_;refine⟨M,zT M,λa b c e=>?_⟩;cases e;exact⟨by simp only[BE];rw[<-key],rfl⟩
end
def NG:List Str:=["one", "other"]
def JA:List Str:=["name", "other", "one"]
def JB:List (Option Nat):=[none,some 1,some 0]
theorem OJ:JA.Nodup:=by decide +kernel
theorem NH:FnScope NG ["one", "other"] (AC GH):=⟨rfl,rfl,rfl,by decide +kernel,rfl,by decide +kernel,by decide +kernel⟩
section
local macro_rules | `(tactic| walk_at "cs")=>`(tactic| first | exact @TR _ _ JA JB (AC GH) NG (by decide +kernel) (by decide +kernel) rfl rfl)
local macro_rules | `(tactic| walk_at "x")=>`(tactic| first | ((with_reducible show PE _ (.Compare _ [.In] ..) _);exact @BX _ _ _ _ _ _ _ _ (@kIn _ K rfl) (by walk_at "e") (by walk_at "e") (by with_unfolding_all rfl)))
theorem UA {f:Addr}{fd:FuncData}(F:Fun K "touch" "touch" GH f fd) (dN:mg "any"=none) (ba:Has P w K mg base "may_share" 2 ["one", "other", "name"] HG) (bj:Has P w K mg base "names_in" 2 ["deed"] IW):FnOk P w K mg base CX0 3 f fd ["one", "other"] (spD K 2 P9):=by
 refine fnD F NH λcdv A outer s H E hr=>?_;have hu:=hr.units;have nd:=NH.nd;have n0:=OJ;refine⟨_,by walk_at "b1", ?_⟩;clear nd n0;rintro xs M hl ⟨a,b,rfl,⟨D,rfl,hD⟩,⟨E',rfl,hE⟩⟩;have iD:ER D.d:=⟨D,rfl,hD⟩
 have iE:ER E'.d:=⟨E',rfl,hE⟩
 have ac:(D.names.map a0Z).length < sizeLine:=by rw[zX];exact zQ (show D.names.length<=2 by cases D <;> simp[Deed.names]) (by decide)
 walk_at "r";refine AU (CU 0) (by simp[JB]) ?_;refine VH ?_;walk_at "r";refine G3 (MV D) ?_;rw[G6];refine⟨_,rfl,ac,λ_=>true,λd=>.bool (decide (BE d∈E'.names)&&!CM (AJ D.d (BE d)) (AJ E'.d (BE d))),?_,?_⟩
 . intro d hd M';obtain⟨n,hn,rfl⟩:=zL.mp hd;walk_at "dl";refine⟨rfl,?_⟩;walk_at "dl";refine⟨rfl,rfl,λ_=>?_⟩;walk_at "r";refine G3 (MV E') ?_;rw[G6];refine L4 ?_;cases hm:decide (n∈E'.names) with
   | false=> walk_at "r";exact⟨by show DS.d (.bool false) = .d (.bool (decide (n∈E'.names)&&!CM (AJ D.d n) (AJ E'.d n)));rw[hm];rfl,rfl⟩
   | true=> walk_at "r";refine TC ⟨iD,iE,n,rfl,hD n hn⟩ ?_;walk_at "r";exact⟨by show DS.d (.bool (!CM (AJ D.d n) (AJ E'.d n))) = .d (.bool (decide (n∈E'.names)&&!CM (AJ D.d n) (AJ E'.d n)));rw[hm];rfl,rfl⟩
 . have e1:((D.names.map a0Z).filter λ_=>true).map (λd=>PyData.bool (decide (BE d∈E'.names)&&!CM (AJ D.d (BE d)) (AJ E'.d (BE d))))=(D.names.map λn=>decide (n∈E'.names)&&!CM (AJ D.d n) (AJ E'.d n)).map .bool:=by rw[flt,zD,zD];rfl
   rw[e1];walk_at "r";refine SM ?_;refine⟨M,zT M,λa b e=>?_⟩;cases e;refine⟨?_,rfl⟩;show DS.d (.bool _) = .d (.bool (B7 D.d E'.d));unfold B7;rw[EQ,EQ,List.any_map];rfl
end
def JL:List Str:=["_law_cell"]
theorem FN:FnScope JL ["_law_cell"] (AC CI):=⟨rfl,rfl,rfl,by decide +kernel,rfl,by decide +kernel,by decide +kernel⟩
section
local macro_rules | `(tactic| walk_at "x")=>`(tactic| first | ((with_reducible show PE _ (.BinOp _ .Mult ..) _);exact @FY _ _ _ _ _ _ _ _ (@VQ _ K rfl) (by walk_at "e") (by walk_at "e")))
theorem JM {f:Addr}{fd:FuncData}(F:Fun K "_law_mixed" "_law_mixed" CI f fd):FnOk P w K mg base CX0 1 f fd ["_law_cell"] (spD K 1 CF):=by refine fnD F FN λcdv A outer s H E hr=>?_;have hu:=hr.units;have nd:=FN.nd;refine⟨_,by walk_at "b1", ?_⟩;clear nd;rintro xs M hl ⟨c,rfl,hc⟩;walk_at "r";refine NX (ZU hc) ?_;walk_at "r";exact⟨M,zT M,rfl,_,rfl⟩
end
def LJ:List Str:=["_law_script", "_law_k"]
theorem GJ:FnScope LJ ["_law_script", "_law_k"] (AC D8):=⟨rfl,rfl,rfl,by decide +kernel,rfl,by decide +kernel,by decide +kernel⟩
section
local macro_rules | `(tactic| walk_at "x")=>`(tactic| first | ((with_reducible show PE _ (.BinOp _ .Mult ..) _);exact @FY _ _ _ _ _ _ _ _ (@VQ _ K rfl) (by walk_at "e") (by walk_at "e")))
theorem LK {f:Addr}{fd:FuncData}(F:Fun K "_law_pack" "_law_pack" D8 f fd) (bb:mg "len"=none) (av:Has P w K mg base "_law_mixed" 1 ["_law_cell"] CF):FnOk P w K mg base CX0 2 f fd ["_law_script", "_law_k"] (spD K 2 CZ):=by
 refine fnD F GJ λcdv A outer s H E hr=>?_;have hu:=hr.units;have nd:=GJ.nd;refine⟨_,by walk_at "b2", ?_⟩;clear nd;rintro xs M hl ⟨ns,k,rfl,hk,hb⟩;walk_at "r";refine F5 ?_;rw[zX];walk_at "r";refine YM (λh=>?_) (λh=>?_)
 . have iS:k < ns.length:=by simp at h;exact h
   have hg:(ns.map PyData.int)[k]?=some (.int ns[k]):=by rw[zF,zV iS];rfl
   walk_at "r";refine KW ?_;walk_at "r";refine CV (AF hg) ?_;walk_at "r";refine IX ?_ λv=>?_
   . have h1:=hb ns[k] (a2X iS);have h2:xL (31*(k:Int))<=64:=PySem.intBits_le_iff.mpr (by
       have:(2:Nat) ^ 64=18446744073709551616:=by decide
       lia);refine zN (PySem.intBits_add_le h1 h2) (by decide)
   walk_at "r";intro p hp;exact⟨_,zT _,p,_,hp,⟨v,rfl⟩,rfl,rfl⟩
 . walk_at "r";refine KW ?_;walk_at "r";refine IX ?_ λv=>?_
   . have h2:xL (7919*(k:Int)+11)<=64:=PySem.intBits_le_iff.mpr (by
       have:(2:Nat) ^ 64=18446744073709551616:=by decide
       lia);exact zN h2 (by decide)
   walk_at "r";intro p hp;exact⟨_,zT _,p,_,hp,⟨v,rfl⟩,rfl,rfl⟩
end
def LL:List Str:=["_law_pack_here", "_law_size", "_law_digit"]
theorem GK:FnScope LL ["_law_pack_here", "_law_size"] (AC D9):=⟨rfl,rfl,rfl,by decide +kernel,rfl,by decide +kernel,by decide +kernel⟩
section
local macro_rules | `(tactic| walk_at "x")=>`(tactic| first | ((with_reducible show PS _ (.Assign [.Tuple ..] ..) _);exact @NJ _ _ _ _ _ _ (by walk_at "e") (by walk_at "g") (by rfl) (by rfl) (by rfl)) | ((with_reducible show PG _ (.Tuple ..) _);exact @T6 _ K _ _ _ _ (2) rfl rfl (by walk_at "j") (by rfl) (by rfl)) | ((with_reducible show PG _ (.Subscript ..) _);exact @XR _ _ _ _ _ _ _ (by walk_at "e") (by walk_at "e") (@RN _) (by intro _;rfl)))
theorem LM {f:Addr}{fd:FuncData}(F:Fun K "_law_take" "_law_take" D9 f fd) (cn:mg "divmod"=none):FnOk P w K mg base CX0 1 f fd ["_law_pack_here", "_law_size"] (spD K 2 BM):=by refine fnD F GK λcdv A outer s H E hr=>?_;have hu:=hr.units;have nd:=GK.nd;refine⟨_,by walk_at "b2", ?_⟩;clear nd;rintro xs M hl ⟨p,size,o,rfl,m,⟨v,rfl⟩,h0,h1⟩;walk_at "dl";refine AY ?_;walk_at "r";refine QM h0 h1 ?_;walk_at "r";refine⟨_,zT _,λp' iT e=>?_⟩;cases e;exact⟨_,_,rfl,Int.emod_nonneg _ (by lia),Int.emod_lt_of_pos _ h0,⟨_,rfl⟩,rfl⟩
end
def DN:List Str:=["_law_pack_here", "_law_amount", "_law_letters", "_law_turn", "_law_pick", "_law_size"]
def EG:List Str:=["_law_k", "_law_letters"]
def EH:List (Option Nat):=[none,some 2]
theorem HS:EG.Nodup:=by decide +kernel
def EI:List Str:=["_law_k", "_law_letters", "_law_size"]
def CA:List (Option Nat):=[none,some 2,some 5]
theorem HU:EI.Nodup:=by decide +kernel
theorem FO:FnScope DN ["_law_pack_here", "_law_amount"] (AC BC):=⟨rfl,rfl,rfl,by decide +kernel,rfl,by decide +kernel,by decide +kernel⟩
section
local macro_rules | `(tactic| walk_at "cs")=>`(tactic| first | exact @TR _ _ EG EH (AC BC) DN (by decide +kernel) (by decide +kernel) rfl rfl | exact @TR _ _ EI CA (AC BC) DN (by decide +kernel) (by decide +kernel) rfl rfl)
local macro_rules | `(tactic| walk_at "x")=>`(tactic| first | ((with_reducible show PE _ (.BinOp _ .Mult ..) _);exact @FY _ _ _ _ _ _ _ _ (@VQ _ K rfl) (by walk_at "e") (by walk_at "e")))
theorem JN {f:Addr}{fd:FuncData}(F:Fun K "_law_names" "_law_names" BC f fd) (ak:mg "range"=none) (ab:Has P w K mg base "_law_take" 1 ["_law_pack_here", "_law_size"] BM):FnOk P w K mg base CX0 2 f fd ["_law_pack_here", "_law_amount"] (spD K 2 CG):=by
 refine fnD F FO λcdv A outer s H E hr=>?_;have hu:=hr.units;have nd:=FO.nd;have n0:=HS;have n1:=HU;refine⟨_,by walk_at "b2", ?_⟩;clear nd n0 n1;rintro xs M hl ⟨p,n,o,rfl,m,ho,kH,kn⟩;obtain⟨N,rfl⟩:∃N:Nat,n=(N:Int):=⟨n.toNat,by lia⟩
 have iU:((a0Q "abcdefghijklmnopqrstuvwxyz"):Str).length<=sizeLine:=by rw[EN];decide
 walk_at "r";refine B2 m ho (by decide) (by decide) λv1 o1 ik f7 fg=>?_;obtain⟨t,rfl⟩:∃t:Nat,v1=(t:Int):=⟨v1.toNat,by lia⟩
 walk_at "r";refine G2 iU ?_;walk_at "r";refine G2 iU ?_;refine IJ (zN (Nat.add_le_add (K7 _ _ _ (Nat.le_of_eq EN)) (K7 _ _ _ (Nat.le_of_eq EN))) (by decide)) ?_;have gE:O0 (a0J (a0Q "abcdefghijklmnopqrstuvwxyz") (some (t:Int)) none++a0J (a0Q "abcdefghijklmnopqrstuvwxyz") none (some (t:Int))):=by
   refine IR (λc hc=>?_) (λc hc=>?_);. rw[E6] at hc;exact IL c (List.mem_of_mem_drop hc)
   . exact IL c (QH hc)
 have eD:(a0J (a0Q "abcdefghijklmnopqrstuvwxyz") (some (t:Int)) none++a0J (a0Q "abcdefghijklmnopqrstuvwxyz") none (some (t:Int))).cps.toList.length=26:=by rw[AG,yY,E6,E5,a4Q,a5K,<-GS,SV];exact ZQ (Nat.le_of_lt (Int.ofNat_lt.mp f7))
 have gk:(a0J (a0Q "abcdefghijklmnopqrstuvwxyz") (some (t:Int)) none++a0J (a0Q "abcdefghijklmnopqrstuvwxyz") none (some (t:Int))).cps.toList.Nodup:=by rw[AG,E6,E5];exact QT t
 have ef:Run (a0J (a0Q "abcdefghijklmnopqrstuvwxyz") (some (t:Int)) none++a0J (a0Q "abcdefghijklmnopqrstuvwxyz") none (some (t:Int))).cps.toList:=by rw[AG,E6,E5];exact ZS (TD t (by lia))
 revert gE eD gk ef;generalize a0J (a0Q "abcdefghijklmnopqrstuvwxyz") (some (t:Int)) none++a0J (a0Q "abcdefghijklmnopqrstuvwxyz") none (some (t:Int))=R;intro gE eD gk ef;have gm:R.length<=sizeLine:=by
   have:R.length=R.cps.toList.length:=by simp[Str.length]
   rw[this,eD];decide
 have gn:∀k:Nat,k < 26->∃c,atI R.cps.toList (k:Int)=some c/\G4 c=true:=λk hk=>by
   have iV:k < R.cps.toList.length:=by rw[eD];exact hk
   exact⟨R.cps.toList[k],AF (zV iV),gE _ (a2X iV)⟩
 walk_at "r";refine B2 zU fg (by decide) (by decide) λv2 o2 _ _ cy=>?_;rw[yJ];walk_at "r";refine B2 zU cy (by decide) (by decide) λv3 o3 kI ko fi=>?_;rw[yJ];obtain⟨s3,rfl⟩:∃s3:Nat,v3=(s3:Int):=⟨v3.toNat,by lia⟩
 have cz:O0 (a0J R (some 3) (some (3+(s3:Int))))/\(a0J R (some 3) (some (3+(s3:Int)))).cps.toList.length<=7/\Run (a0J R (some 3) (some (3+(s3:Int)))).cps.toList:=by
   have e:(a0J R (some 3) (some (3+(s3:Int)))).cps.toList=(R.cps.toList.take (3+s3)).drop 3:=QN R 3 (3+s3);refine⟨λc hc=>?_,?_,?_⟩;. rw[e] at hc;exact gE c (List.mem_of_mem_take (List.mem_of_mem_drop hc))
   . rw[e,a4Q,a5K];exact ZR (Nat.le_of_lt_succ (Int.ofNat_lt.mp ko))
   . rw[e];exact(ef.take _).drop _
 have il:(BU 0 N).length=N:=by simp[BU]
 have hN:N<=26:=Int.ofNat_le.mp kn;have hsz:(BU 0 N).length < sizeLine:=by rw[il];exact zQ hN (by decide)
 have fin:∀(g:PyData->PyData),(∀k:Nat,k < N->∃z,g (.int k) = .str z/\CC z/\z∉HR)->(∀i j:Nat,i < N->j < N->g (.int i)=g (.int j)->i=j)->∃ys:List Str,((BU 0 N).filter λ_=>true).map g=ys.map .str/\ys.length=N/\(∀z∈ys,CC z/\z∉HR)/\ys.Nodup:=λg hg hi=>by
   rw[flt];refine⟨(a3X N).map λ(k:Nat)=>BE (g (.int (k:Int))),?_,by simp,?_,?_⟩;. unfold BU;rw[zD,zD];apply yN;intro k hk;obtain⟨z,e,_⟩:=hg k (List.mem_range.mp hk);show g (.int (0+(k:Int))) = .str (BE (g (.int k)));rw[Int.zero_add,e];rfl
   . intro z hz;obtain⟨k,hk,rfl⟩:=zL.mp hz;obtain⟨z,e,h⟩:=hg k (List.mem_range.mp hk);rw[e];exact h
   . refine nodup_range λi j h1 h2 e=>hi i j h1 h2 ?_;obtain⟨z1,e1,_⟩:=hg i h1;obtain⟨z2,e2,_⟩:=hg j h2;rw[e1,e2] at e ⊢;exact congrArg a0Z e
 walk_at "r";refine CB rfl rfl ?_;rw[if_neg nft];walk_at "r";refine YM (λh=>?_) (λh=>?_)
 . walk_at "r";refine AU (CU 0) (by simp[EH]) ?_;refine F4 ?_;walk_at "r";refine⟨by lia,by lia,?_⟩;rw[b0Z];have dQ:∀k:Nat,k < N->∃c,atI R.cps.toList ((k:Int)/8)=some c/\G4 c=true:=λk hk=>gn (k/8) (NZ hk hN);refine⟨hsz,λ_=>true,nmA R,?_,?_⟩;. intro d hd M';obtain⟨k,hk,rfl⟩:=zL.mp hd;obtain⟨c,e1,e2⟩:=dQ k (List.mem_range.mp hk);rw[Int.zero_add];walk_at "dl";refine⟨rfl,?_⟩;walk_at "dl";refine⟨rfl,rfl,λ_=>?_⟩;walk_at "r";refine L0 gm e1 ?_;walk_at "r";refine ZN (FV _).1 (FV _).2.1 (by show 1<=1000;decide) ?_;exact⟨by rw[L9 e1],rfl⟩
   . have iA:∀i j:Nat,i < N->j < N->(nmA R) (.int i)=(nmA R) (.int j)->i=j:=λi j h1 h2 e=>by
       obtain⟨c1,q1,_⟩:=dQ i h1;obtain⟨c2,q2,_⟩:=dQ j h2;rw[L9 q1,L9 q2] at e;have e':HQ ⟨#[c1]⟩ (1+(i:Int) % 8)=HQ ⟨#[c2]⟩ (1+(j:Int) % 8):=by injection e
       obtain⟨gy,gB⟩:=W3 (FV _).1 (FV _).1 e';subst gy;have hq:=J0 (i:=i/8) (j:=j/8) gk q1 q2 (by rw[eD];exact NZ h1 hN) (by rw[eD];exact NZ h2 hN);exact c9 gB hq
     have hA:∀k:Nat,k < N->∃z,(nmA R) (.int k) = .str z/\CC z/\z∉HR:=λk hk=>by
       obtain⟨c,q1,q2⟩:=dQ k hk;have hz:=L7 (c:=c) (n:=1+(k:Int) % 8) (FV k).1;refine⟨HQ ⟨#[c]⟩ (1+(k:Int) % 8),L9 q1,?_,VX hz⟩;refine IQ (λd hd=>?_) ?_ ?_;. rw[hz] at hd;rw[b0Q hd];exact q2
       . rw[hz,a4K];exact(FV k).2.2.1
       . rw[hz,a4K];exact(FV k).2.2.2
     obtain⟨ys,e1,e2,e3,e4⟩:=fin (nmA R) hA iA;rw[e1];refine⟨_,zT _,λp' n' e=>?_⟩;cases e;exact⟨ys,o3,rfl,by rw[e2],λz hz=>(e3 z hz).1,λz hz=>(e3 z hz).2,e4,fi,rfl⟩
 . walk_at "r";refine CB rfl rfl ?_;rw[if_neg nft];walk_at "r";have dQ:∀k:Nat,k < N->∃c,atI R.cps.toList (k:Int)=some c/\G4 c=true:=λk hk=>gn k (zP hk hN);have gp:∀c:Nat,(⟨#[c]⟩:Str).length+(a0J R (some 3) (some (3+(s3:Int)))).length<=sizeLine:=λc=>by
     have:(a0J R (some 3) (some (3+(s3:Int)))).length=(a0J R (some 3) (some (3+(s3:Int)))).cps.toList.length:=by simp[Str.length]
     rw[this];exact zN (Nat.add_le_add (zR 1) cz.2.1) (by decide)
   refine YM (λh2=>?_) (λh2=>?_)
   . walk_at "r";refine AU (CU 0) (by simp[CA]) ?_;refine F4 ?_;walk_at "r";refine⟨by lia,by lia,?_⟩;rw[b0Z];refine⟨hsz,λ_=>true,nmB R (a0J R (some 3) (some (3+(s3:Int)))),?_,?_⟩;. intro d hd M';obtain⟨k,hk,rfl⟩:=zL.mp hd;obtain⟨c,e1,e2⟩:=dQ k (List.mem_range.mp hk);rw[Int.zero_add];walk_at "dl";refine⟨rfl,?_⟩;walk_at "dl";refine⟨rfl,rfl,λ_=>?_⟩;walk_at "r";refine L0 gm e1 ?_;walk_at "r";refine G2 gm ?_;refine IJ (gp c) ?_;exact⟨by rw[LA e1],rfl⟩
     . have iB:∀i j:Nat,i < N->j < N->(nmB R (a0J R (some 3) (some (3+(s3:Int))))) (.int i)=(nmB R (a0J R (some 3) (some (3+(s3:Int))))) (.int j)->i=j:=λi j h1 h2 e=>by
         obtain⟨c1,q1,_⟩:=dQ i h1;obtain⟨c2,q2,_⟩:=dQ j h2;rw[LA q1,LA q2] at e;have e':(⟨#[c1]⟩:Str)++a0J R (some 3) (some (3+(s3:Int)))=⟨#[c2]⟩++a0J R (some 3) (some (3+(s3:Int))):=by injection e
         have hc:=TL e';subst hc;exact J0 gk q1 q2 (by rw[eD];exact zP h1 hN) (by rw[eD];exact zP h2 hN)
       have hB:∀k:Nat,k < N->∃z,(nmB R (a0J R (some 3) (some (3+(s3:Int))))) (.int k) = .str z/\CC z/\z∉HR:=λk hk=>by
         obtain⟨c,q1,q2⟩:=dQ k hk;refine⟨_,LA q1,?_,VY (c:=c) (by rw[AG];rfl) cz.2.2⟩;refine IQ (IR (MP q2) cz.1) ?_ ?_;. rw[AG,yY];exact Nat.le_add_right 1 _
         . rw[AG,yY];exact a6J cz.2.1 1
       obtain⟨ys,e1,e2,e3,e4⟩:=fin (nmB R (a0J R (some 3) (some (3+(s3:Int))))) hB iB;rw[e1];refine⟨_,zT _,λp' n' e=>?_⟩;cases e;exact⟨ys,o3,rfl,by rw[e2],λz hz=>(e3 z hz).1,λz hz=>(e3 z hz).2,e4,fi,rfl⟩
   . walk_at "r";refine AU (CU 0) (by simp[CA]) ?_;refine F4 ?_;walk_at "r";refine⟨by lia,by lia,?_⟩;rw[b0Z];refine⟨hsz,λ_=>true,nmC R (a0J R (some 3) (some (3+(s3:Int)))),?_,?_⟩;. intro d hd M';obtain⟨k,hk,rfl⟩:=zL.mp hd;obtain⟨c,e1,e2⟩:=dQ k (List.mem_range.mp hk);rw[Int.zero_add];walk_at "dl";refine⟨rfl,?_⟩;walk_at "dl";refine⟨rfl,rfl,λ_=>?_⟩;walk_at "r";refine G2 gm ?_;walk_at "r";refine L0 gm e1 ?_;refine IJ (by rw[Nat.add_comm];exact gp c) ?_;exact⟨by rw[LB e1],rfl⟩
     . have iC:∀i j:Nat,i < N->j < N->(nmC R (a0J R (some 3) (some (3+(s3:Int))))) (.int i)=(nmC R (a0J R (some 3) (some (3+(s3:Int))))) (.int j)->i=j:=λi j h1 h2 e=>by
         obtain⟨c1,q1,_⟩:=dQ i h1;obtain⟨c2,q2,_⟩:=dQ j h2;rw[LB q1,LB q2] at e;have e':a0J R (some 3) (some (3+(s3:Int)))++(⟨#[c1]⟩:Str)=a0J R (some 3) (some (3+(s3:Int)))++⟨#[c2]⟩:=by injection e
         have hc:=TM e';subst hc;exact J0 gk q1 q2 (by rw[eD];exact zP h1 hN) (by rw[eD];exact zP h2 hN)
       have hC:∀k:Nat,k < N->∃z,(nmC R (a0J R (some 3) (some (3+(s3:Int))))) (.int k) = .str z/\CC z/\z∉HR:=λk hk=>by
         obtain⟨c,q1,q2⟩:=dQ k hk;refine⟨_,LB q1,?_,VZ (c:=c) (by rw[AG]) cz.2.2⟩;refine IQ (IR cz.1 (MP q2)) ?_ ?_;. rw[AG,yY];exact Nat.le_add_left 1 _
         . rw[AG,yY];exact Nat.add_le_add_right cz.2.1 1
       obtain⟨ys,e1,e2,e3,e4⟩:=fin (nmC R (a0J R (some 3) (some (3+(s3:Int))))) hC iC;rw[e1];refine⟨_,zT _,λp' n' e=>?_⟩;cases e;exact⟨ys,o3,rfl,by rw[e2],λz hz=>(e3 z hz).1,λz hz=>(e3 z hz).2,e4,fi,rfl⟩
end
def H0:List Str:=["_law_pack_here", "_law_names_here", "_law_kind", "_law_at", "_law_one", "_law_other", "_law_place", "_law_number"]
theorem DZ:FnScope H0 ["_law_pack_here", "_law_names_here"] (AC BG):=⟨rfl,rfl,rfl,by decide +kernel,rfl,by decide +kernel,by decide +kernel⟩
theorem HA {f:Addr}{fd:FuncData}(F:Fun K "_law_any_deed" "_law_any_deed" BG f fd) (bb:mg "len"=none) (ab:Has P w K mg base "_law_take" 1 ["_law_pack_here", "_law_size"] BM):FnOk P w K mg base CX0 2 f fd ["_law_pack_here", "_law_names_here"] (spD K 2 HZ):=by
 refine fnD F DZ λcdv A outer s H E hr=>?_;have hu:=hr.units;have nd:=DZ.nd;refine⟨_,by walk_at "b2", ?_⟩;clear nd;rintro xs M hl ⟨p,o,ys,rfl,m,ho,h2,h3,hy,nd⟩;rw[show FJ ys = .list (ys.map .str) from rfl];have kq:(0:Int) < (ys.length:Int):=by lia
 walk_at "r";refine BI ?_;walk_at "r";refine B2 m ho (by decide) (by decide) λv1 o1 a0 a1 fg=>?_;obtain⟨kd,ek,fD⟩:=W1 (ys:=IZ) a0 a1;refine CV (d:=.str kd) ek ?_;walk_at "r";refine F5 ?_;rw[zX];walk_at "r";refine B2 zU fg (by lia) (by lia) λv2 o2 b0 b1 cy=>?_;rw[yJ];walk_at "r";obtain⟨i1,rfl⟩:∃i:Nat,v2=(i:Int):=⟨v2.toNat,by lia⟩
 have gF:i1 < ys.length:=by lia
 refine CV (AF (j:=i1) (by rw[zF,zV gF];rfl)) ?_;walk_at "r";refine F5 ?_;rw[zX];walk_at "r";refine B2 zU cy (by lia) (by lia) λv3 o3 c0 c1 fi=>?_;rw[yJ];walk_at "r";refine F5 ?_;rw[zX];walk_at "r";obtain⟨j3,rfl⟩:∃i:Nat,v3=(i:Int):=⟨v3.toNat,by lia⟩
 obtain⟨i2,e2,gG,ck⟩:∃i2:Nat,((i1:Int)+1+(j3:Int)) % (ys.length:Int)=(i2:Int)/\i2 < ys.length/\i2≠i1:=by
   refine⟨(i1+1+j3) % ys.length,?_,Nat.mod_lt _ (by lia),λe=>?_⟩;. exact(Int.natCast_emod (i1+1+j3) ys.length).symm
   . have h5:=Nat.div_add_mod (i1+1+j3) ys.length;rw[e] at h5;have h6:ys.length*((i1+1+j3)/ys.length)=1+j3:=by lia
     have h7:1+j3 < ys.length:=by lia
     cases hq:(i1+1+j3)/ys.length with
     | zero=>rw[hq] at h6;lia
     | succ q=>rw[hq,Nat.mul_succ] at h6;lia
 rw[e2];refine CV (AF (j:=i2) (by rw[zF,zV gG];rfl)) ?_;have ip:=a2X gF;have iW:=a2X gG;have gq:ys[i1]≠ys[i2]:=λe=>by
   rcases Nat.lt_or_gt_of_ne ck with q | q;. exact List.pairwise_iff_getElem.mp nd i2 i1 gG gF q e.symm
   . exact List.pairwise_iff_getElem.mp nd i1 i2 gF gG q e
 generalize ys[i1]=y1 at ip gq;generalize ys[i2]=y2 at iW gq;have r1:∀{D:Deed},D.names=[y1]->D.apart->D.placed->D.real/\∀x∈D.names,x∈ys:=λ{D} e ha hp=>by
   have:∀x∈D.names,x∈ys:=λx hx=>by rw[e] at hx;rw[List.mem_singleton.mp hx];exact ip
   exact⟨⟨λx hx=>hy x (this x hx),ha,hp⟩,this⟩
 have r2:∀{D:Deed},D.names=[y1,y2]->D.apart->D.placed->D.real/\∀x∈D.names,x∈ys:=λ{D} e ha hp=>by
   have:∀x∈D.names,x∈ys:=λx hx=>by
     rw[e] at hx;rcases yX.mp hx with q | q;. rw[q];exact ip
     . rw[List.mem_singleton.mp q];exact iW
   exact⟨⟨λx hx=>hy x (this x hx),ha,hp⟩,this⟩
 walk_at "r";refine BI ?_;walk_at "r";refine B2 zU fi (by decide) (by decide) λv4 o4 d0 d1 iq=>?_;rw[yJ];obtain⟨pl,kr,p0,p1⟩:∃pl:Int,atI [PyData.int 0,.int 1,.int 2,.int 999,.int 7] v4=some (.int pl)/\0<=pl/\pl<=999:=by
   obtain rfl | rfl | rfl | rfl | rfl:v4=0\/v4=1\/v4=2\/v4=3\/v4=4:=by lia
   . exact⟨0,rfl,by decide,by decide⟩
   . exact⟨1,rfl,by decide,by decide⟩
   . exact⟨2,rfl,by decide,by decide⟩
   . exact⟨999,rfl,by decide,by decide⟩
   . exact⟨7,rfl,by decide,by decide⟩
 refine CV kr ?_;walk_at "r";refine BI ?_;walk_at "r";refine B2 zU iq (by decide) (by decide) λv5 o5 _ _ ir=>?_;rw[yJ];walk_at "r";refine B2 zU ir (by decide) (by decide) λv6 o6 f0 f1 eB=>?_;rw[yJ];obtain⟨nu,ku⟩:=W0 (xs:=[.int 0,.int 1,.int (-1),.int (10 ^ Int.toNat 12),.int (v5 - 20)]) (by simp) f0 f1;refine CV ku ?_;walk_at "r";refine CB (G8 fD) (by decide +kernel) ?_;rw[if_neg nft,BB];cases e0:(kd==a0Q "put") with
 | true=>
   have ek:kd=a0Q "put" := eq_of_beq e0;subst ek;walk_at "r";refine⟨_,zT _,λp' aj e=>?_⟩;simp only[List.cons.injEq,DS.loc.injEq,DS.d.injEq,and_true] at e;obtain⟨rfl,e⟩:=e;have e:ys=aj:=C8 e;subst e;have rr:=(r1 rfl trivial ⟨p0,p1⟩:(.put y1 pl nu:Deed).real/\∀x∈(.put y1 pl nu:Deed).names,x∈ys)
   exact⟨.put y1 pl nu,o6,rfl,rr.1,rr.2,eB,rfl⟩
 | false=>
   walk_at "r";refine CB (G8 fD) (by decide +kernel) ?_;rw[if_neg nft,BB];cases e1:(kd==a0Q "take") with
   | true=>
     have ek:kd=a0Q "take" := eq_of_beq e1;subst ek;walk_at "r";refine⟨_,zT _,λp' aj e=>?_⟩;simp only[List.cons.injEq,DS.loc.injEq,DS.d.injEq,and_true] at e;obtain⟨rfl,e⟩:=e;have e:ys=aj:=C8 e;subst e;have rr:=(r1 rfl trivial trivial:(.take y1:Deed).real/\∀x∈(.take y1:Deed).names,x∈ys)
     exact⟨.take y1,o6,rfl,rr.1,rr.2,eB,rfl⟩
   | false=>
     walk_at "r";refine CB (G8 fD) (by decide +kernel) ?_;rw[if_neg nft,BB];cases e2:(kd==a0Q "move") with
     | true=>
       have ek:kd=a0Q "move" := eq_of_beq e2;subst ek;walk_at "r";refine⟨_,zT _,λp' aj e=>?_⟩;simp only[List.cons.injEq,DS.loc.injEq,DS.d.injEq,and_true] at e;obtain⟨rfl,e⟩:=e;have e:ys=aj:=C8 e;subst e;have rr:=(r1 rfl trivial ⟨p0,p1⟩:(.move y1 pl:Deed).real/\∀x∈(.move y1 pl:Deed).names,x∈ys)
       exact⟨.move y1 pl,o6,rfl,rr.1,rr.2,eB,rfl⟩
     | false=>
       walk_at "r";refine CB (G8 fD) (by decide +kernel) ?_;rw[if_neg nft,BB];cases e3:(kd==a0Q "count") with
       | true=>
         have ek:kd=a0Q "count" := eq_of_beq e3;subst ek;walk_at "r";refine⟨_,zT _,λp' aj e=>?_⟩;simp only[List.cons.injEq,DS.loc.injEq,DS.d.injEq,and_true] at e;obtain⟨rfl,e⟩:=e;have e:ys=aj:=C8 e;subst e;have rr:=(r1 rfl trivial trivial:(.count y1 nu:Deed).real/\∀x∈(.count y1 nu:Deed).names,x∈ys)
         exact⟨.count y1 nu,o6,rfl,rr.1,rr.2,eB,rfl⟩
       | false=>
         walk_at "r";refine CB (G8 fD) (by decide +kernel) ?_;rw[if_neg nft,BB];cases e4:(kd==a0Q "split") with
         | true=>
           have ek:kd=a0Q "split" := eq_of_beq e4;subst ek;walk_at "r";refine⟨_,zT _,λp' aj e=>?_⟩;simp only[List.cons.injEq,DS.loc.injEq,DS.d.injEq,and_true] at e;obtain⟨rfl,e⟩:=e;have e:ys=aj:=C8 e;subst e;have rr:=(r2 rfl gq ⟨p0,p1⟩:(.split y1 y2 pl nu:Deed).real/\∀x∈(.split y1 y2 pl nu:Deed).names,x∈ys)
           exact⟨.split y1 y2 pl nu,o6,rfl,rr.1,rr.2,eB,rfl⟩
         | false=>
           walk_at "r";rcases QS fD e0 e1 e2 e3 e4 with rfl | rfl
           . walk_at "r";refine⟨_,zT _,λp' aj e=>?_⟩;simp only[List.cons.injEq,DS.loc.injEq,DS.d.injEq,and_true] at e;obtain⟨rfl,e⟩:=e;have e:ys=aj:=C8 e;subst e;have rr:=(r2 rfl gq trivial:(.name y1 y2:Deed).real/\∀x∈(.name y1 y2:Deed).names,x∈ys)
             exact⟨.name y1 y2,o6,rfl,rr.1,rr.2,eB,rfl⟩
           . walk_at "r";refine⟨_,zT _,λp' aj e=>?_⟩;simp only[List.cons.injEq,DS.loc.injEq,DS.d.injEq,and_true] at e;obtain⟨rfl,e⟩:=e;have e:ys=aj:=C8 e;subst e;have rr:=(r2 rfl gq trivial:(.join y1 y2:Deed).real/\∀x∈(.join y1 y2:Deed).names,x∈ys)
             exact⟨.join y1 y2,o6,rfl,rr.1,rr.2,eB,rfl⟩
def JO:List Str:=["_law_deed"]
theorem FP:FnScope JO ["_law_deed"] (AC CJ):=⟨rfl,rfl,rfl,by decide +kernel,rfl,by decide +kernel,by decide +kernel⟩
section
local macro_rules | `(tactic| walk_at "x")=>`(tactic| first | ((with_reducible show PE _ (.Compare _ [.In] ..) _);exact @BX _ _ _ _ _ _ _ _ (@kIn _ K rfl) (by walk_at "e") (by walk_at "e") (by with_unfolding_all rfl)))
local macro_rules | `(tactic| walk_at "y")=>`(tactic| first | ((with_reducible show PE _ (.Call (.Name (a0Q "list") _) ..) _);exact @F3 _ _ _ _ _ _ _ _ _ (@c5 _ K rfl) (by rfl) c_ PyProof.Rows.boot_list (by walk_at "a") (by decide) (by decide) (by rfl) (by rfl)))
theorem JP {f:Addr}{fd:FuncData}(F:Fun K "_law_named" "_law_named" CJ f fd) (fj:mg "int"=none) (c_:mg "list"=none):FnOk P w K mg base CX0 1 f fd ["_law_deed"] (spD K 1 G7):=by
 refine fnD F FP λcdv A outer s H E hr=>?_;have hu:=hr.units;have nd:=FP.nd;refine⟨_,by walk_at "b1", ?_⟩;clear nd;rintro xs M hl ⟨d,rfl,D,rfl,hD⟩;rw[D.d_eq];walk_at "r";refine AM (d:=.str D.word) (AF (j:=0) rfl) ?_;walk_at "r";refine BI ?_;walk_at "r";refine P3 (ys:=[a0Q "name", a0Q "split", a0Q "join"]) ?_;rw[cC];walk_at "r";refine AK ?_;cases htw:QO D.word with
 | true=> rw[show(D.word==a0Q "name" || D.word==a0Q "split" || D.word==a0Q "join")=true from htw];rw[show BW (a0Z D.word::a0Z D.fst::D.rest) (some 1) (some (2+if true=true then 1 else 0))=(a0Z D.fst::D.rest).take 2 from HW _ 1 3];walk_at "r";refine MH ?_;exact⟨M,zT M,λd' e=>by cases e;refine⟨?_,rfl⟩;simp only[IY,htw];rfl⟩
 | false=> rw[show(D.word==a0Q "name" || D.word==a0Q "split" || D.word==a0Q "join")=false from htw];rw[show BW (a0Z D.word::a0Z D.fst::D.rest) (some 1) (some (2+if false=true then 1 else 0))=(a0Z D.fst::D.rest).take 1 from HW _ 1 2];walk_at "r";refine MH ?_;exact⟨M,zT M,λd' e=>by cases e;refine⟨?_,rfl⟩;simp only[IY,htw];rfl⟩
end
def LN:List Str:=["_law_deed"]
theorem GL:FnScope LN ["_law_deed"] (AC DB):=⟨rfl,rfl,rfl,by decide +kernel,rfl,by decide +kernel,by decide +kernel⟩
section
local macro_rules | `(tactic| walk_at "x")=>`(tactic| first | ((with_reducible show PT _ (.Compare _ [.In] ..) _);exact @F2 _ _ _ _ _ _ _ _ (@kIn _ K rfl) (by walk_at "e") (by walk_at "e") (by with_unfolding_all rfl)))
theorem LO {f:Addr}{fd:FuncData}(F:Fun K "_law_made" "_law_made" DB f fd):FnOk P w K mg base CX0 1 f fd ["_law_deed"] (spD K 1 EX):=by
 refine fnD F GL λcdv A outer s H E hr=>?_;have hu:=hr.units;have nd:=GL.nd;refine⟨_,by walk_at "b2", ?_⟩;clear nd;rintro xs M hl ⟨D,rfl,hr⟩;have fin:∀{z:Str},mdS D=z->∃M2:Own,M2.Sub M/\EX.post [.d D.d] M (.d (.str z)) M2:=λe2=>⟨M,zT M,λD' e=>by simp only[List.cons.injEq,DS.d.injEq,and_true] at e;obtain rfl:=BP e;rw[e2];exact⟨rfl,rfl⟩⟩
 rw[D.d_eq] at *;walk_at "r";refine AM (d:=.str D.word) (AF (j:=0) rfl) ?_;walk_at "r";refine CB D.word_ok (by decide +kernel) ?_;rw[if_neg nft,BB];cases h1:(D.word==a0Q "put") with
 | true=>
   walk_at "r";refine AM (d:=.str D.fst) (AF (j:=1) rfl) ?_;walk_at "r";cases D <;> first | (exfalso;simp only[Deed.word] at h1;revert h1;decide +kernel) | skip
   exact fin rfl
 | false=>
   walk_at "r";refine AM (d:=.str D.word) (AF (j:=0) rfl) ?_;walk_at "wkd";refine P3 (ys:=[a0Q "name", a0Q "split"]) ?_;rw[show decide (D.word∈[a0Q "name", a0Q "split"])=(D.word==a0Q "name" || D.word==a0Q "split") by rw[a2V];simp];cases h2:(D.word==a0Q "name" || D.word==a0Q "split") with
   | true=>
     walk_at "r";cases D <;> first | (exfalso;simp only[Deed.word] at h2;revert h2;decide +kernel) | skip
     all_goals
       refine AM (d:=_) rfl ?_;walk_at "r";exact fin rfl
   | false=> walk_at "wkd";cases D <;> first | (exfalso;simp only[Deed.word] at h1;revert h1;decide +kernel) | (exfalso;simp only[Deed.word] at h2;revert h2;decide +kernel) | exact fin rfl
end
def HK:List Str:=["_law_world", "_law_deed"]
def FQ:List Str:=["_law_name", "_law_world", "_law_deed"]
def FR:List (Option Nat):=[none,some 0,some 1]
theorem JQ:FQ.Nodup:=by decide +kernel
theorem HL:FnScope HK ["_law_world", "_law_deed"] (AC CT):=⟨rfl,rfl,rfl,by decide +kernel,rfl,by decide +kernel,by decide +kernel⟩
section
local macro_rules | `(tactic| walk_at "cs")=>`(tactic| first | exact @TR _ _ FQ FR (AC CT) HK (by decide +kernel) (by decide +kernel) rfl rfl)
local macro_rules | `(tactic| walk_at "x")=>`(tactic| first | ((with_reducible show PE _ (.Compare _ [.In] ..) _);exact @XE _ _ _ _ _ _ (@YG _ _ _ _ _ fm (by walk_at "e") (by walk_at "e")) (by with_unfolding_all rfl)))
theorem NI {f:Addr}{fd:FuncData}(F:Fun K "_law_can" "_law_can" CT f fd) (dO:mg "all"=none) (bc:Has P w K mg base "_law_made" 1 ["_law_deed"] EX) (aw:Has P w K mg base "_law_named" 1 ["_law_deed"] G7):FnOk P w K mg base CX0 2 f fd ["_law_world", "_law_deed"] (spD K 2 IA):=by
 refine fnD F HL λcdv A outer s H E hr=>?_;have hu:=hr.units;have fm:=zQ (a6J (show 1<=64 by decide) _) hu;have nd:=HL.nd;have n0:=JQ;refine⟨_,by walk_at "b1", ?_⟩;clear nd n0;rintro xs M hl ⟨w,D,rfl,hr⟩;unfold wdE;walk_at "r";refine AU (CU 0) (by simp[FR]) ?_;refine CL ?_;walk_at "r";refine G3 ⟨D,rfl,hr.1⟩ ?_;rw[ND];refine⟨_,rfl,?_⟩;refine⟨by rw[zX];exact zQ (RA D) (by decide),λ_=>true,cN w D,?_,?_⟩;. intro d hd M';obtain⟨z,hz,rfl⟩:=zL.mp hd;walk_at "dl";refine⟨rfl,?_⟩;walk_at "dl";refine⟨rfl,rfl,λ_=>?_⟩;walk_at "r";refine W6 ?_;walk_at "r";refine⟨tsD w,z,isTD.d,rfl,?_⟩;rw[dF];walk_at "r";refine N9 hr ?_;refine CB (E8 (hr.1 z hz)) (R9 hr.1) ?_;rw[if_neg nft,BB];refine CB rfl rfl ?_;rw[if_pos rfl,QU];exact⟨rfl,rfl⟩
 rw[W4,R8];walk_at "r";refine NV ?_;rw[WG hr];refine⟨M,zT M,λw' D' e=>?_⟩;simp only[wdE,List.cons.injEq,DS.d.injEq,and_true] at e;obtain rfl:=R7 e.1;obtain rfl:=BP e.2;exact⟨rfl,rfl⟩
end
def OK:List Str:=["_law_world", "_law_deed", "_law_found", "_law_word", "_law_one", "_law_place", "_law_count"]
theorem JC:FnScope OK ["_law_world", "_law_deed"] (AC FH):=⟨rfl,rfl,rfl,by decide +kernel,rfl,by decide +kernel,by decide +kernel⟩
section
local macro_rules | `(tactic| walk_at "x")=>`(tactic| first | ((with_reducible show PS _ (.Assign [.Tuple ..] ..) _);exact @NJ _ _ _ _ _ _ (by walk_at "e") (by walk_at "g") (by rfl) (by rfl) (by rfl)) | ((with_reducible show PG _ (.Tuple ..) _);exact @T6 _ K _ _ _ _ (2) rfl rfl (by walk_at "j") (by rfl) (by rfl)) | ((with_reducible show PS _ (.Assign [.Subscript ..] ..) _);exact @OV _ _ _ _ _ _ _ _ _ fm (by walk_at "e") (by walk_at "e") (by walk_at "e") (by rfl)) | ((with_reducible show PE _ (.Call (.Attribute _ (a0Q "pop") _) ..) _);exact @RV _ _ _ _ _ _ _ (by walk_at "e") (by walk_at "e") (@L2.M1.mk _ _ _ _ _ _ rfl rfl rfl rfl)))
local macro_rules | `(tactic| walk_at "y")=>`(tactic| first | ((with_reducible show PE _ (.Call (.Name (a0Q "dict") _) ..) _);exact @F3 _ _ _ _ _ _ _ _ _ (@U0 _ K rfl) (by rfl) a_ a9Q (by walk_at "a") (by decide) (by decide) (by rfl) (by rfl)))
theorem OL {f:Addr}{fd:FuncData}(F:Fun K "_law_do" "_law_do" FH f fd) (a_:mg "dict"=none) (bo:Has P w K mg base "_law_can" 2 ["_law_world", "_law_deed"] IA):FnOk P w K mg base CX0 3 f fd ["_law_world", "_law_deed"] (spD K 2 GY):=by
 refine fnD F JC λcdv A outer s H E hr=>?_;have hu:=hr.units;have fm:=zQ (a6J (show 1<=64 by decide) _) hu;have nd:=JC.nd;refine⟨_,by walk_at "b2", ?_⟩;clear nd;rintro xs M hl ⟨o,D,rfl,⟨ys,h6,hr,hn,kx⟩⟩;unfold doX;have fin:∀{p:Option (List Th)},JK o D=p->∃M2:Own,M2.Sub M/\GY.post (doX o D) M (.d (EU p)) M2:=λ{p} e2=>⟨M,zT M,λo' D' e=>by simp only[doX,List.cons.injEq,DS.d.injEq,and_true] at e;obtain rfl:=WF e.1;obtain rfl:=BP e.2;rw[e2];exact⟨rfl,rfl⟩⟩
 cases o with
 | none=> rw[show EU none = .none from rfl];walk_at "r";refine G5 ?_;walk_at "r";exact fin (p:=none) rfl
 | some w=>
   rw[show EU (some w)=wQ w from rfl];have hw:=kx w rfl;have fw:=hw.few;walk_at "r";refine G5 ?_;walk_at "r";refine OF (w:=w) hr ?_;cases hc:decide (AQ (w.map (·.1)) D=none) with
   | false=> walk_at "r";exact fin (p:=none) (by show(if AQ (w.map (·.1)) D=none then some (AH w D) else none)=none;rw[if_neg (of_decide_eq_false hc)])
   | true=>
     have hc:=of_decide_eq_true hc;have hg:goD w D:=⟨B0 hw h6,hr,hc⟩
     have fin:=λ(v:List Th) (e:AH w D=v)=>fin (p:=some v) (by rw[PM hc,e]);walk_at "r";refine N1 isTD.d λq hq=>?_;cases D with
     | put x pl k=> rw[show(Deed.put x pl k).d = .tuple [.str (a0Q "put"),.str x,.int pl,.int k] from rfl];walk_at "r";refine AY ?_;walk_at "r";refine AK ?_;rw[show BW [a0Z (a0Q "put"),.str x,.int pl,.int k] none (some 2)=[.str (a0Q "put"),.str x] from rfl];walk_at "r";refine AB (t:=true) (by decide +kernel) ?_;walk_at "r";refine CY ?_;walk_at "r";refine AK ?_;rw[show BW [a0Z (a0Q "put"),.str x,.int pl,.int k] (some 2) none=[.int pl,.int k] from rfl];walk_at "r";refine⟨q,tsD (w),x,pcD (pl) (k),rfl,rfl,rfl,zU,D3 (by lia),?_⟩;rw[yJ,D0];refine BA (i:=2) (a:=q) rfl zU ?_;rw[yH hq];walk_at "r";exact fin _ rfl
     | take x=> obtain⟨v,hv⟩:=FI hg (n:=x) (by simp[Deed.names]) (by simp[Deed.made]);rw[show(Deed.take x).d = .tuple [.str (a0Q "take"),.str x] from rfl];walk_at "r";refine AY ?_;walk_at "r";refine AK ?_;rw[show BW [a0Z (a0Q "take"),.str x] none (some 2)=[.str (a0Q "take"),.str x] from rfl];walk_at "r";refine AB (t:=false) (by decide +kernel) ?_;walk_at "r";refine AY ?_;refine E7 ?_;walk_at "r";refine⟨q,tsD (w),rfl,zU,?_⟩;walk_at "r";refine⟨tsD (w),x,pcD v.1 v.2,rfl,zU,by rw[AV,hv];rfl,?_⟩;rw[yJ,CO,show pcD v.1 v.2 = .tuple [.int v.1,.int v.2] from rfl];walk_at "r";refine AB (t:=false) (by decide +kernel) ?_;walk_at "r";refine AB (t:=false) (by decide +kernel) ?_;walk_at "r";refine AB (t:=false) (by decide +kernel) ?_;walk_at "r";refine AB (t:=false) (by decide +kernel) ?_;walk_at "r";refine AB (t:=false) (by decide +kernel) ?_;walk_at "wks";refine BA (i:=2) (a:=q) rfl zU ?_;rw[yH hq];walk_at "r";exact fin _ rfl
     | move x pl=> obtain⟨v,hv⟩:=FI hg (n:=x) (by simp[Deed.names]) (by simp[Deed.made]);rw[show(Deed.move x pl).d = .tuple [.str (a0Q "move"),.str x,.int pl] from rfl];walk_at "r";refine AY ?_;walk_at "r";refine AK ?_;rw[show BW [a0Z (a0Q "move"),.str x,.int pl] none (some 2)=[.str (a0Q "move"),.str x] from rfl];walk_at "r";refine AB (t:=false) (by decide +kernel) ?_;walk_at "r";refine AY ?_;refine E7 ?_;walk_at "r";refine⟨q,tsD (w),rfl,zU,?_⟩;walk_at "r";refine⟨tsD (w),x,pcD v.1 v.2,rfl,zU,by rw[AV,hv];rfl,?_⟩;rw[yJ,CO,show pcD v.1 v.2 = .tuple [.int v.1,.int v.2] from rfl];walk_at "r";refine AB (t:=true) (by decide +kernel) ?_;walk_at "r";refine CY ?_;walk_at "r";refine AM (ds:=[.str (a0Q "move"),.str x,.int pl]) (d:=.int pl) (AF (j:=2) rfl) ?_;walk_at "r";refine⟨q,tsD (AR w x),x,pcD (pl) (v.2),rfl,rfl,rfl,zU,D3 (by have:=CS w x;lia),?_⟩;rw[yJ,D0];walk_at "r";refine AB (t:=false) (by decide +kernel) ?_;walk_at "r";refine AB (t:=false) (by decide +kernel) ?_;walk_at "r";refine AB (t:=false) (by decide +kernel) ?_;walk_at "r";refine AB (t:=false) (by decide +kernel) ?_;walk_at "wks";refine BA (i:=2) (a:=q) rfl zU ?_;rw[yH hq];walk_at "r";exact fin _ (by simp only[AH,hv])
     | count x k=> obtain⟨v,hv⟩:=FI hg (n:=x) (by simp[Deed.names]) (by simp[Deed.made]);rw[show(Deed.count x k).d = .tuple [.str (a0Q "count"),.str x,.int k] from rfl];walk_at "r";refine AY ?_;walk_at "r";refine AK ?_;rw[show BW [a0Z (a0Q "count"),.str x,.int k] none (some 2)=[.str (a0Q "count"),.str x] from rfl];walk_at "r";refine AB (t:=false) (by decide +kernel) ?_;walk_at "r";refine AY ?_;refine E7 ?_;walk_at "r";refine⟨q,tsD (w),rfl,zU,?_⟩;walk_at "r";refine⟨tsD (w),x,pcD v.1 v.2,rfl,zU,by rw[AV,hv];rfl,?_⟩;rw[yJ,CO,show pcD v.1 v.2 = .tuple [.int v.1,.int v.2] from rfl];walk_at "r";refine AB (t:=false) (by decide +kernel) ?_;walk_at "r";refine AB (t:=true) (by decide +kernel) ?_;walk_at "r";refine CY ?_;walk_at "r";refine AM (ds:=[.str (a0Q "count"),.str x,.int k]) (d:=.int k) (AF (j:=2) rfl) ?_;walk_at "r";refine⟨q,tsD (AR w x),x,pcD (v.1) (v.2+k),rfl,rfl,rfl,zU,D3 (by have:=CS w x;lia),?_⟩;rw[yJ,D0];walk_at "r";refine AB (t:=false) (by decide +kernel) ?_;walk_at "r";refine AB (t:=false) (by decide +kernel) ?_;walk_at "r";refine AB (t:=false) (by decide +kernel) ?_;walk_at "wks";refine BA (i:=2) (a:=q) rfl zU ?_;rw[yH hq];walk_at "r";exact fin _ (by simp only[AH,hv])
     | name x y=> obtain⟨v,hv⟩:=FI hg (n:=x) (by simp[Deed.names]) (by simp only[Deed.made,ne_eq,Option.some.injEq];exact a5J hg.2.1.2.1);rw[show(Deed.name x y).d = .tuple [.str (a0Q "name"),.str x,.str y] from rfl];walk_at "r";refine AY ?_;walk_at "r";refine AK ?_;rw[show BW [a0Z (a0Q "name"),.str x,.str y] none (some 2)=[.str (a0Q "name"),.str x] from rfl];walk_at "r";refine AB (t:=false) (by decide +kernel) ?_;walk_at "r";refine AY ?_;refine E7 ?_;walk_at "r";refine⟨q,tsD (w),rfl,zU,?_⟩;walk_at "r";refine⟨tsD (w),x,pcD v.1 v.2,rfl,zU,by rw[AV,hv];rfl,?_⟩;rw[yJ,CO,show pcD v.1 v.2 = .tuple [.int v.1,.int v.2] from rfl];walk_at "r";refine AB (t:=false) (by decide +kernel) ?_;walk_at "r";refine AB (t:=false) (by decide +kernel) ?_;walk_at "r";refine AB (t:=true) (by decide +kernel) ?_;walk_at "r";refine CY ?_;walk_at "r";refine AM (ds:=[.str (a0Q "name"),.str x,.str y]) (d:=.str y) (AF (j:=2) rfl) ?_;walk_at "r";refine⟨q,tsD (AR w x),y,pcD (v.1) (v.2),rfl,rfl,rfl,zU,D3 (by have:=CS w x;lia),?_⟩;rw[yJ,D0];walk_at "r";refine AB (t:=false) (by decide +kernel) ?_;walk_at "r";refine AB (t:=false) (by decide +kernel) ?_;walk_at "wks";refine BA (i:=2) (a:=q) rfl zU ?_;rw[yH hq];walk_at "r";exact fin _ (by simp only[AH,hv])
     | split x y pl k=> obtain⟨v,hv⟩:=FI hg (n:=x) (by simp[Deed.names]) (by simp only[Deed.made,ne_eq,Option.some.injEq];exact a5J hg.2.1.2.1);rw[show(Deed.split x y pl k).d = .tuple [.str (a0Q "split"),.str x,.str y,.int pl,.int k] from rfl];walk_at "r";refine AY ?_;walk_at "r";refine AK ?_;rw[show BW [a0Z (a0Q "split"),.str x,.str y,.int pl,.int k] none (some 2)=[.str (a0Q "split"),.str x] from rfl];walk_at "r";refine AB (t:=false) (by decide +kernel) ?_;walk_at "r";refine AY ?_;refine E7 ?_;walk_at "r";refine⟨q,tsD (w),rfl,zU,?_⟩;walk_at "r";refine⟨tsD (w),x,pcD v.1 v.2,rfl,zU,by rw[AV,hv];rfl,?_⟩;rw[yJ,CO,show pcD v.1 v.2 = .tuple [.int v.1,.int v.2] from rfl];walk_at "r";refine AB (t:=false) (by decide +kernel) ?_;walk_at "r";refine AB (t:=false) (by decide +kernel) ?_;walk_at "r";refine AB (t:=false) (by decide +kernel) ?_;walk_at "r";refine AB (t:=true) (by decide +kernel) ?_;walk_at "r";refine CY ?_;walk_at "r";refine AM (ds:=[.str (a0Q "split"),.str x,.str y,.int pl,.int k]) (d:=.int k) (AF (j:=4) rfl) ?_;walk_at "r";refine⟨q,tsD (AR w x),x,pcD (v.1) (v.2 - k),rfl,rfl,rfl,zU,D3 (by have:=CS w x;lia),?_⟩;rw[yJ,D0];walk_at "r";refine CY ?_;walk_at "r";refine AK ?_;rw[show BW [a0Z (a0Q "split"),.str x,.str y,.int pl,.int k] (some 3) none=[.int pl,.int k] from rfl];walk_at "r";refine AM (ds:=[.str (a0Q "split"),.str x,.str y,.int pl,.int k]) (d:=.str y) (AF (j:=2) rfl) ?_;walk_at "r";refine⟨q,tsD (BK (AR w x) x v.1 (v.2 - k)),y,pcD (pl) (k),rfl,rfl,rfl,zU,D3 (by have:=CS w x;have:=QV (ts:=AR w x) (x:=x) (p:=v.1) (c:=v.2 - k);lia),?_⟩;rw[yJ,D0];walk_at "r";refine AB (t:=false) (by decide +kernel) ?_;walk_at "wks";refine BA (i:=2) (a:=q) rfl zU ?_;rw[yH hq];walk_at "r";exact fin _ (by simp only[AH,hv])
     | join x y=> obtain⟨v,hv⟩:=FI hg (n:=x) (by simp[Deed.names]) (by simp[Deed.made]);obtain⟨u,hu⟩:=FI hg (n:=y) (by simp[Deed.names]) (by simp[Deed.made]);rw[show(Deed.join x y).d = .tuple [.str (a0Q "join"),.str x,.str y] from rfl];walk_at "r";refine AY ?_;walk_at "r";refine AK ?_;rw[show BW [a0Z (a0Q "join"),.str x,.str y] none (some 2)=[.str (a0Q "join"),.str x] from rfl];walk_at "r";refine AB (t:=false) (by decide +kernel) ?_;walk_at "r";refine AY ?_;refine E7 ?_;walk_at "r";refine⟨q,tsD (w),rfl,zU,?_⟩;walk_at "r";refine⟨tsD (w),x,pcD v.1 v.2,rfl,zU,by rw[AV,hv];rfl,?_⟩;rw[yJ,CO,show pcD v.1 v.2 = .tuple [.int v.1,.int v.2] from rfl];walk_at "r";refine AB (t:=false) (by decide +kernel) ?_;walk_at "r";refine AB (t:=false) (by decide +kernel) ?_;walk_at "r";refine AB (t:=false) (by decide +kernel) ?_;walk_at "r";refine AB (t:=false) (by decide +kernel) ?_;walk_at "r";refine AB (t:=true) (by decide +kernel) ?_;walk_at "r";refine CY ?_;walk_at "r";refine E7 ?_;walk_at "r";refine⟨q,tsD (AR w x),rfl,zU,?_⟩;walk_at "r";refine AM (ds:=[.str (a0Q "join"),.str x,.str y]) (d:=.str y) (AF (j:=2) rfl) ?_;walk_at "r";refine⟨tsD (AR w x),y,pcD u.1 u.2,rfl,zU,by rw[AV,B3,if_neg (a5J hg.2.1.2.1),hu];rfl,?_⟩;rw[yJ,CO,show pcD u.1 u.2 = .tuple [.int u.1,.int u.2] from rfl];walk_at "r";refine AM (ds:=[.int u.1,.int u.2]) (d:=.int u.2) (AF (j:=1) rfl) ?_;walk_at "r";refine⟨q,tsD (AR (AR w x) y),x,pcD (v.1) (v.2+u.2),rfl,rfl,rfl,zU,D3 (by have:=CS w x;have:=CS (AR w x) y;lia),?_⟩;rw[yJ,D0];walk_at "wks";refine BA (i:=2) (a:=q) rfl zU ?_;rw[yH hq];walk_at "r";exact fin _ (by simp only[AH,hv,hu])
end
def LP:List Str:=["_law_world", "_law_row", "_law_deed"]
theorem GM:FnScope LP ["_law_world", "_law_row"] (AC DC):=⟨rfl,rfl,rfl,by decide +kernel,rfl,by decide +kernel,by decide +kernel⟩
theorem LQ {f:Addr}{fd:FuncData}(F:Fun K "_law_done" "_law_done" DC f fd) (ao:Has P w K mg base "_law_do" 3 ["_law_world", "_law_deed"] GY):FnOk P w K mg base CX0 4 f fd ["_law_world", "_law_row"] (spD K 2 EY):=by
 refine fnD F GM λcdv A outer s H E hr=>?_;have hu:=hr.units;have nd:=GM.nd;refine⟨_,by walk_at "b2", ?_⟩;clear nd;rintro xs M hl ⟨ys,w,D,E',rfl,hF⟩;unfold dnX;walk_at "r";refine GR ?_;refine CL ?_;walk_at "r";refine⟨λk ρ1 M1=>M1=M/\∃(o:Option (List Th)) (x2:Option DS),(k=0/\o=some w\/k=1/\o=JK (some w) D\/k=2/\o=AZ w D E')/\ρ1=[some (.d (EU o)),some (.d (.list [D.d,E'.d])),x2],⟨rfl,some w,_,.inl ⟨rfl,rfl⟩,rfl⟩,?_,?_⟩
 . rintro k d ρ1 M1 hd ⟨rfl,o,x2,hk,rfl⟩;have o0:∀v,some w=some v->There ys v:=λv e=>by cases e;exact hF.th
   have o1:=Ok24.step (D:=D) hF.few hF.rd hF.nd o0;rcases hk with ⟨rfl,rfl⟩ | ⟨rfl,rfl⟩ | ⟨rfl,rfl⟩
   . obtain rfl:D.d=d:=by simpa using hd
     walk_at "r";refine FD ⟨ys,hF.few,hF.rd,hF.nd,o0⟩ ?_;walk_at "r";exact⟨rfl,_,_,.inr (.inl ⟨rfl,rfl⟩),rfl⟩
   . obtain rfl:E'.d=d:=by simpa using hd
     walk_at "r";refine FD ⟨ys,hF.few,hF.re,hF.ne,o1⟩ ?_;walk_at "r";exact⟨rfl,_,_,.inr (.inr ⟨rfl,rfl⟩),rfl⟩
   . simp at hd
 . rintro ρ1 M1 ⟨rfl,o,x2,hk,rfl⟩;obtain rfl:o=AZ w D E':=by
     rcases hk with ⟨h,_⟩ | ⟨h,_⟩ | ⟨_,h⟩
     . cases h
     . cases h
     . exact h
   walk_at "r";refine⟨M1,zT _,λw' D' E2 e=>?_⟩;simp only[dnX,List.cons.injEq,DS.d.injEq,PyData.list.injEq,and_true] at e;obtain rfl:=R7 e.1;obtain rfl:=BP e.2.1;obtain rfl:=BP e.2.2;exact⟨rfl,rfl⟩
def LR:List Str:=["_law_world", "_law_deed", "_law_word", "_law_one"]
theorem GN:FnScope LR ["_law_world", "_law_deed"] (AC DD):=⟨rfl,rfl,rfl,by decide +kernel,rfl,by decide +kernel,by decide +kernel⟩
section
local macro_rules | `(tactic| walk_at "x")=>`(tactic| first | ((with_reducible show PS _ (.Assign [.Tuple ..] ..) _);exact @NJ _ _ _ _ _ _ (by walk_at "e") (by walk_at "g") (by rfl) (by rfl) (by rfl)) | ((with_reducible show PG _ (.Tuple ..) _);exact @T6 _ K _ _ _ _ (2) rfl rfl (by walk_at "j") (by rfl) (by rfl)))
local macro_rules | `(tactic| walk_at "y")=>`(tactic| first | ((with_reducible show PE _ (.Subscript ..) _);exact @OU _ _ _ _ _ _ fm (@pv _ 0 _ _ (by rfl) (by walk_at "lc") (by decide) (by decide)) (@pv _ 3 _ _ (by rfl) (by walk_at "lc") (by decide) (by decide)) (λ_ _=>rfl)) | ((with_reducible show PE _ (.Subscript ..) _);exact @OU _ _ _ _ _ _ fm (@pv _ 0 _ _ (by rfl) (by walk_at "lc") (by decide) (by decide)) (by walk_at "e") (λ_ _=>rfl)))
theorem LS {f:Addr}{fd:FuncData}(F:Fun K "_law_back" "_law_back" DD f fd):FnOk P w K mg base CX0 1 f fd ["_law_world", "_law_deed"] (spD K 2 EZ):=by
 refine fnD F GN λcdv A outer s H E hr=>?_;have hu:=hr.units;have fm:=zQ (a6J (show 1<=64 by decide) _) hu;have nd:=GN.nd;refine⟨_,by walk_at "b2", ?_⟩;clear nd;rintro xs M hl ⟨w,D,rfl,hg⟩;unfold wdE;have fin:∀(B:Deed),AD w D=B->∃M2:Own,M2.Sub M/\EZ.post (wdE w D) M (.d B.d) M2:=λB e2=>⟨M,zT M,λw' D' e=>by simp only[wdE,List.cons.injEq,DS.d.injEq,and_true] at e;obtain rfl:=R7 e.1;obtain rfl:=BP e.2;rw[e2];exact⟨rfl,rfl⟩⟩
 cases D with
 | put x pl k=> rw[show(Deed.put x pl k).d = .tuple [.str (a0Q "put"),.str x,.int pl,.int k] from rfl];walk_at "r";refine AY ?_;walk_at "r";refine AK ?_;rw[show BW [a0Z (a0Q "put"),.str x,.int pl,.int k] none (some 2)=[.str (a0Q "put"),.str x] from rfl];walk_at "r";refine AB (t:=true) (by decide +kernel) ?_;walk_at "r";exact fin _ rfl
 | take x=> obtain⟨v,hv⟩:=FI hg (n:=x) (by simp[Deed.names]) (by simp[Deed.made]);rw[show(Deed.take x).d = .tuple [.str (a0Q "take"),.str x] from rfl];walk_at "r";refine AY ?_;walk_at "r";refine AK ?_;rw[show BW [a0Z (a0Q "take"),.str x] none (some 2)=[.str (a0Q "take"),.str x] from rfl];walk_at "r";refine AB (t:=false) (by decide +kernel) ?_;walk_at "r";refine AB (t:=true) (by decide +kernel) ?_;walk_at "r";refine IT ?_;walk_at "r";refine⟨tsD w,x,pcD v.1 v.2,rfl,rfl,by rw[AV,hv];rfl,?_⟩;rw[show pcD v.1 v.2 = .tuple [.int v.1,.int v.2] from rfl];walk_at "r";refine MJ (by show 4<=sizeLine;decide) ?_;exact fin (.put x v.1 v.2) (by simp only[AD,hv])
 | move x pl=> obtain⟨v,hv⟩:=FI hg (n:=x) (by simp[Deed.names]) (by simp[Deed.made]);rw[show(Deed.move x pl).d = .tuple [.str (a0Q "move"),.str x,.int pl] from rfl];walk_at "r";refine AY ?_;walk_at "r";refine AK ?_;rw[show BW [a0Z (a0Q "move"),.str x,.int pl] none (some 2)=[.str (a0Q "move"),.str x] from rfl];walk_at "r";refine AB (t:=false) (by decide +kernel) ?_;walk_at "r";refine AB (t:=false) (by decide +kernel) ?_;walk_at "r";refine AB (t:=true) (by decide +kernel) ?_;walk_at "r";refine IT ?_;walk_at "r";refine⟨tsD w,x,pcD v.1 v.2,rfl,rfl,by rw[AV,hv];rfl,?_⟩;rw[show pcD v.1 v.2 = .tuple [.int v.1,.int v.2] from rfl];walk_at "r";refine AM (ds:=[.int v.1,.int v.2]) (d:=.int v.1) (AF (j:=0) rfl) ?_;walk_at "r";exact fin (.move x v.1) (by simp only[AD,hv])
 | count x k=> obtain⟨v,hv⟩:=FI hg (n:=x) (by simp[Deed.names]) (by simp[Deed.made]);rw[show(Deed.count x k).d = .tuple [.str (a0Q "count"),.str x,.int k] from rfl];walk_at "r";refine AY ?_;walk_at "r";refine AK ?_;rw[show BW [a0Z (a0Q "count"),.str x,.int k] none (some 2)=[.str (a0Q "count"),.str x] from rfl];walk_at "r";refine AB (t:=false) (by decide +kernel) ?_;walk_at "r";refine AB (t:=false) (by decide +kernel) ?_;walk_at "r";refine AB (t:=false) (by decide +kernel) ?_;walk_at "r";refine AB (t:=true) (by decide +kernel) ?_;walk_at "r";refine AM (ds:=[.str (a0Q "count"),.str x,.int k]) (d:=.int k) (AF (j:=2) rfl) ?_;walk_at "r";rw[Int.zero_sub];exact fin _ rfl
 | name x y=> obtain⟨v,hv⟩:=FI hg (n:=x) (by simp[Deed.names]) (by simp only[Deed.made,ne_eq,Option.some.injEq];exact a5J hg.2.1.2.1);rw[show(Deed.name x y).d = .tuple [.str (a0Q "name"),.str x,.str y] from rfl];walk_at "r";refine AY ?_;walk_at "r";refine AK ?_;rw[show BW [a0Z (a0Q "name"),.str x,.str y] none (some 2)=[.str (a0Q "name"),.str x] from rfl];walk_at "r";refine AB (t:=false) (by decide +kernel) ?_;walk_at "r";refine AB (t:=false) (by decide +kernel) ?_;walk_at "r";refine AB (t:=false) (by decide +kernel) ?_;walk_at "r";refine AB (t:=false) (by decide +kernel) ?_;walk_at "r";refine AB (t:=true) (by decide +kernel) ?_;walk_at "r";refine AM (ds:=[.str (a0Q "name"),.str x,.str y]) (d:=.str y) (AF (j:=2) rfl) ?_;walk_at "r";exact fin _ rfl
 | split x y pl k=> obtain⟨v,hv⟩:=FI hg (n:=x) (by simp[Deed.names]) (by simp only[Deed.made,ne_eq,Option.some.injEq];exact a5J hg.2.1.2.1);rw[show(Deed.split x y pl k).d = .tuple [.str (a0Q "split"),.str x,.str y,.int pl,.int k] from rfl];walk_at "r";refine AY ?_;walk_at "r";refine AK ?_;rw[show BW [a0Z (a0Q "split"),.str x,.str y,.int pl,.int k] none (some 2)=[.str (a0Q "split"),.str x] from rfl];walk_at "r";refine AB (t:=false) (by decide +kernel) ?_;walk_at "r";refine AB (t:=false) (by decide +kernel) ?_;walk_at "r";refine AB (t:=false) (by decide +kernel) ?_;walk_at "r";refine AB (t:=false) (by decide +kernel) ?_;walk_at "r";refine AB (t:=false) (by decide +kernel) ?_;walk_at "r";refine AB (t:=true) (by decide +kernel) ?_;walk_at "r";refine AM (ds:=[.str (a0Q "split"),.str x,.str y,.int pl,.int k]) (d:=.str y) (AF (j:=2) rfl) ?_;walk_at "r";exact fin _ rfl
 | join x y=> obtain⟨v,hv⟩:=FI hg (n:=x) (by simp[Deed.names]) (by simp[Deed.made]);obtain⟨u,hu⟩:=FI hg (n:=y) (by simp[Deed.names]) (by simp[Deed.made]);rw[show(Deed.join x y).d = .tuple [.str (a0Q "join"),.str x,.str y] from rfl];walk_at "r";refine AY ?_;walk_at "r";refine AK ?_;rw[show BW [a0Z (a0Q "join"),.str x,.str y] none (some 2)=[.str (a0Q "join"),.str x] from rfl];walk_at "r";refine AB (t:=false) (by decide +kernel) ?_;walk_at "r";refine AB (t:=false) (by decide +kernel) ?_;walk_at "r";refine AB (t:=false) (by decide +kernel) ?_;walk_at "r";refine AB (t:=false) (by decide +kernel) ?_;walk_at "r";refine AB (t:=false) (by decide +kernel) ?_;walk_at "r";refine AB (t:=false) (by decide +kernel) ?_;walk_at "r";refine AM (ds:=[.str (a0Q "join"),.str x,.str y]) (d:=.str y) (AF (j:=2) rfl) ?_;walk_at "r";refine IT ?_;walk_at "r";refine AM (ds:=[.str (a0Q "join"),.str x,.str y]) (d:=.str y) (AF (j:=2) rfl) ?_;walk_at "r";refine⟨tsD w,y,pcD u.1 u.2,rfl,rfl,by rw[AV,hu];rfl,?_⟩;rw[show pcD u.1 u.2 = .tuple [.int u.1,.int u.2] from rfl];walk_at "r";refine MJ (by show 5<=sizeLine;decide) ?_;exact fin (.split x y u.1 u.2) (by simp only[AD,hu])
end
def JD:List Str:=["_law_names_here", "_law_found", "_law_k", "_law_more", "_law_world", "_law_wider"]
theorem F1:FnScope JD ["_law_names_here"] (AC BZ):=⟨rfl,rfl,rfl,by decide +kernel,rfl,by decide +kernel,by decide +kernel⟩
section
local macro_rules | `(tactic| walk_at "x")=>`(tactic| first | ((with_reducible show PE _ (.Dict ..) _);exact @RT _ _) | ((with_reducible show PS _ (.Assign [.Subscript ..] ..) _);exact @OV _ _ _ _ _ _ _ _ _ fm (by walk_at "e") (by walk_at "e") (by walk_at "e") (by rfl)) | ((with_reducible show PE _ (.BinOp _ .Mult ..) _);exact @FY _ _ _ _ _ _ _ _ (@VQ _ K rfl) (by walk_at "e") (by walk_at "e")))
local macro_rules | `(tactic| walk_at "y")=>`(tactic| first | ((with_reducible show PE _ (.Call (.Name (a0Q "dict") _) ..) _);exact @F3 _ _ _ _ _ _ _ _ _ (@U0 _ K rfl) (by rfl) a_ a9Q (by walk_at "a") (by decide) (by decide) (by rfl) (by rfl)))
theorem JE {f:Addr}{fd:FuncData}(F:Fun K "_law_worlds" "_law_worlds" BZ f fd) (a_:mg "dict"=none) (bb:mg "len"=none) (ak:mg "range"=none):FnOk P w K mg base CX0 1 f fd ["_law_names_here"] (spD K 1 EB):=by
 refine fnD F F1 λcdv A outer s H E hr=>?_;have hu:=hr.units;have fm:=zQ (a6J (show 1<=64 by decide) _) hu;have nd:=F1.nd;refine⟨_,by walk_at "b2", ?_⟩;clear nd;rintro xs M hl ⟨ys,rfl,h4⟩;rw[show FJ ys = .list (ys.map .str) from rfl];walk_at "wkd";refine GR ?_;refine F4 ?_;walk_at "r";refine F5 ?_;rw[zX];walk_at "r";refine⟨by lia,by lia,?_⟩;refine⟨λk ρ1 M1=>M1=M/\k<=ys.length/\∃(ws:List (List Th)) (x2 x3 x4 x5:Option DS),ws.length=2 ^ k/\(∀w∈ws,There ys w)/\ρ1=[some (.d (.list (ys.map .str))),some (.d (.list (ws.map wQ))),x2,x3,x4,x5],⟨rfl,xU _,[[]],_,_,_,_,rfl,(λw hw=>by rw[List.mem_singleton.mp hw];exact⟨List.nodup_nil,λt ht=>nomatch ht⟩),rfl⟩,?_,?_⟩
 . rintro k d ρ1 M1 hd ⟨rfl,hk,ws,x2,x3,x4,x5,e9,gr,rfl⟩;obtain⟨iX,rfl⟩:=W5 hd;have iY:(ys.map a0Z)[k]?=some (.str ys[k]):=by rw[zF,zV iX];rfl
   have iZ:=a2X iX;generalize ys[k]=z at iY iZ;have h8:ws.length<=8:=by
     rw[e9];have:k<=3:=by lia
     calc 2 ^ k<=2 ^ 3:=Nat.pow_le_pow_right (by decide) this
       _=8:=rfl
   obtain⟨c,ec⟩:∃c:Int,atI [PyData.int 1,.int 3,.int 9,.int 27] (k:Int)=some (.int c)/\-1000000000000000 < c/\c < 1000000000000000:=by
     obtain rfl | rfl | rfl | rfl:k=0\/k=1\/k=2\/k=3:=by lia
     . exact⟨1,rfl,by decide,by decide⟩
     . exact⟨3,rfl,by decide,by decide⟩
     . exact⟨9,rfl,by decide,by decide⟩
     . exact⟨27,rfl,by decide,by decide⟩
   walk_at "wkd";refine GR ?_;refine CL ?_;walk_at "r";refine⟨λj ρ2 M2=>M2=M1/\j<=ws.length/\∃(vs:List (List Th)) (y4 y5:Option DS),vs.length=2*j/\(∀w∈vs,There ys w)/\ρ2=[some (.d (.list (ys.map .str))),some (.d (.list (ws.map wQ))),some (.d (.int k)),some (.d (.list (vs.map wQ))),y4,y5],⟨rfl,xU _,[],_,_,rfl,(λw hw=>nomatch hw),rfl⟩,?_,?_⟩
   . rintro j d2 ρ2 M2 hd2 ⟨rfl,hj,vs,y4,y5,gu,iu,rfl⟩;have ja:j < ws.length:=by have:=(yU.mp hd2).1;rw[zX] at this;exact this
     obtain rfl:wQ ws[j]=d2:=by rw[zF,zV ja] at hd2;simpa using hd2
     have hw:=gr _ (a2X ja);generalize ws[j]=w at hw;have fw:=hw.few;walk_at "r";refine N1 isTD.d λq hq=>?_;walk_at "r";refine CY ?_;walk_at "r";refine BI ?_;walk_at "r";refine CV ec.1 ?_;walk_at "r";refine NX (CMul.ok (L3 ec.2.1 ec.2.2)) ?_;walk_at "r";refine CV (AF iY) ?_;walk_at "r";refine⟨q,tsD w,z,pcD (500+(k:Int)) (c*10 ^ Int.toNat 15),rfl,rfl,rfl,zU,D3 (by lia),?_⟩;rw[yJ,D0];refine BA (i:=5) (a:=q) rfl zU ?_;rw[yH hq];walk_at "r";refine BI ?_;walk_at "r";refine SS (by rw[zX,gu];exact zN (show _<=20 by simp;lia) (by decide)) ?_;refine⟨rfl,by lia,vs++[w,BK w z (500+(k:Int)) (c*10 ^ Int.toNat 15)],_,_,by rw[yY,gu];simp;lia,λv hv=>?_,by rw[xJ];rfl⟩;rcases yW.mp hv with q1 | q1;. exact iu v q1
     . rcases yX.mp q1 with rfl | q1;. exact hw
       . rw[List.mem_singleton.mp q1];exact OG hw iZ
   . rintro ρ2 M2 ⟨rfl,hj,vs,y4,y5,gu,iu,rfl⟩;rw[zX] at gu;walk_at "r";exact⟨rfl,by lia,vs,_,_,_,_,by rw[gu,e9,Nat.pow_succ];lia,iu,rfl⟩
 . rintro ρ1 M1 ⟨rfl,hk,ws,x2,x3,x4,x5,e9,gr,rfl⟩;rw[TU] at e9;walk_at "r";refine⟨M1,zT _,λaj e=>⟨rfl,ws,rfl,?_,?_⟩⟩
   . rw[e9]
     calc 2 ^ ys.length<=2 ^ 4:=Nat.pow_le_pow_right (by decide) h4
       _=16:=rfl
   . have e:ys=aj:=C8 (by simp only[List.cons.injEq,DS.d.injEq,and_true] at e;exact e);subst e;exact gr
end
def JR:List Str:=["_law_world", "_law_row", "_law_found", "_law_deed"]
theorem FS:FnScope JR ["_law_world", "_law_row"] (AC CK):=⟨rfl,rfl,rfl,by decide +kernel,rfl,by decide +kernel,by decide +kernel⟩
section
local macro_rules | `(tactic| walk_at "y")=>`(tactic| first | ((with_reducible show PE _ (.Call (.Name (a0Q "sorted") _) ..) _);exact @C0 _ _ _ _ _ _ _ _ _ (@ZZ _ K rfl hu) (by rfl) bp PyProof.Rows.boot_sorted (by walk_at "a") (by decide) (by decide) (by rfl) (by rfl)))
theorem JS {f:Addr}{fd:FuncData}(F:Fun K "_law_backs" "_law_backs" CK f fd) (bp:mg "sorted"=none) (be:Has P w K mg base "_law_back" 1 ["_law_world", "_law_deed"] EZ) (ao:Has P w K mg base "_law_do" 3 ["_law_world", "_law_deed"] GY):FnOk P w K mg base CX0 4 f fd ["_law_world", "_law_row"] (spD K 2 FE):=by
 refine fnD F FS λcdv A outer s H E hr=>?_;have hu:=hr.units;have nd:=FS.nd;refine⟨_,by walk_at "b2", ?_⟩;clear nd;rintro xs M hl ⟨ys,w,D,E',r,rfl,hF,hD,hE,bi⟩;unfold dnX;have b1:=FC w hF.rd.1;have b2:=FC (AH w D) hF.re.1;have o0:∀v,some w=some v->There ys v:=λv e=>by cases e;exact hF.th
 have o1:∀v,some (AH w D)=some v->There ys v:=λv e=>by cases e;exact FA hF.th hD hF.nd
 walk_at "r";refine KW ?_;walk_at "r";intro A hA;walk_at "r";refine GR ?_;refine CL ?_;walk_at "r";refine⟨λk ρ1 M1=>∃(o:Option (List Th)) (l:List PyData) (x3:Option DS),(k=0/\o=some w/\l=[]\/k=1/\o=some (AH w D)/\l=[prX D (AD w D)]\/k=2/\l=[prX D (AD w D),prX E' (AD (AH w D) E')])/\M1=M.put A (.l l)/\ρ1=[some (.d (EU o)),some (.d (.list [D.d,E'.d])),some (.loc A),x3],⟨some w,[],_,.inl ⟨rfl,rfl,rfl⟩,rfl,rfl⟩,?_,?_⟩
 . rintro k d ρ1 M1 hd ⟨o,l,x3,hk,rfl,rfl⟩;rcases hk with ⟨rfl,rfl,rfl⟩ | ⟨rfl,rfl,rfl⟩ | ⟨rfl,rfl⟩
   . obtain rfl:D.d=d:=by simpa using hd
     walk_at "r";refine S4 ?_;walk_at "dl";refine⟨P1 (ds:=[]) zU,?_⟩;walk_at "r";refine HI (w:=w) hD ?_;walk_at "r";refine K5 (ds:=[]) zU (by decide) ?_;rw[yJ];walk_at "r";refine FD (o:=some w) ⟨ys,hF.few,hF.rd,hF.nd,o0⟩ ?_;rw[PM hD.2.2];walk_at "r";refine⟨some (AH w D),_,_,.inr (.inl ⟨rfl,rfl,rfl⟩),?_,rfl⟩;rw[D6 D];rfl
   . obtain rfl:E'.d=d:=by simpa using hd
     walk_at "r";refine S4 ?_;walk_at "dl";refine⟨P1 (ds:=[prX D (AD w D)]) zU,?_⟩;walk_at "r";refine HI (w:=AH w D) hE ?_;walk_at "r";refine K5 (ds:=[prX D (AD w D)]) zU (by show 1 < sizeLine;decide) ?_;rw[yJ];walk_at "r";refine FD (o:=some (AH w D)) ⟨ys,hF.few,hF.re,hF.ne,o1⟩ ?_;walk_at "r";refine⟨_,_,_,.inr (.inr ⟨rfl,rfl⟩),?_,rfl⟩;rw[D6 E'];rfl
   . simp at hd
 . rintro ρ1 M1 ⟨o,l,x3,hk,rfl,rfl⟩;obtain rfl:l=[prX D (AD w D),prX E' (AD (AH w D) E')]:=by
     rcases hk with ⟨h,_⟩ | ⟨h,_⟩ | ⟨_,h⟩
     . cases h
     . cases h
     . exact h
   refine QA (i:=2) (a:=A) rfl zU ?_;rw[yH hA];walk_at "r";refine U5 (r:=r) (EW hF.rd.1 b1).1 (EW hF.re.1 b2).1 (EW hF.rd.1 b1).2 bi ?_;refine⟨M,zT M,λw' D' E2 r2 e hr2=>?_⟩;simp only[dnX,List.cons.injEq,DS.d.injEq,PyData.list.injEq,and_true] at e;obtain rfl:=R7 e.1;obtain rfl:=BP e.2.1;obtain rfl:=BP e.2.2;rw[bi] at hr2;cases hr2;exact⟨rfl,rfl⟩
end
def LU:List Str:=["_law_world", "_law_one", "_law_other", "_law_first", "_law_second"]
theorem ED:FnScope LU ["_law_world", "_law_one", "_law_other"] (AC DF):=⟨rfl,rfl,rfl,by decide +kernel,rfl,by decide +kernel,by decide +kernel⟩
section
local macro_rules | `(tactic| walk_at "x")=>`(tactic| first | ((with_reducible show PS _ (.Assign [.Tuple ..] (.Tuple ..) _) _);exact @XT _ _ (3) (4) _ _ _ _ _ _ _ _ _ _ _ rfl ED.nd rfl rfl (by decide) rfl rfl (by walk_at "a") rfl (by rfl)))
local macro_rules | `(tactic| walk_at "y")=>`(tactic| first | ((with_reducible show PE _ (.Compare _ [.Eq] ..) _);exact @BX _ _ _ _ _ _ _ _ (@dD _ K rfl hu) (by walk_at "e") (by walk_at "e") (@DH _ _ (by decide) (by decide))))
theorem LV {f:Addr}{fd:FuncData}(F:Fun K "_law_same" "_law_same" DF f fd) (ax:Has P w K mg base "_law_backs" 4 ["_law_world", "_law_row"] FE) (ag:Has P w K mg base "_law_done" 4 ["_law_world", "_law_row"] EY):FnOk P w K mg base CX0 5 f fd ["_law_world", "_law_one", "_law_other"] (spD K 3 GF):=by
 refine fnD F ED λcdv A outer s H E hr=>?_;have hu:=hr.units;have nd:=ED.nd;refine⟨_,by walk_at "b2", ?_⟩;clear nd;rintro xs M hl ⟨ys,w,D,E',rfl,hF,ht⟩;unfold smX;walk_at "r";refine BI ?_;walk_at "r";refine C9 hF ?_;walk_at "r";refine BI ?_;walk_at "r";refine C9 hF.swap ?_;walk_at "r";refine⟨_,_,rfl,?_⟩;cases h:AZ w D E' with
 | none=>
   rw[QZ hF ht h,show EU none = .none from rfl];repeat (first | walk_at "dl" | refine G5 ?_)
   exact⟨M,zT M,rfl,rfl⟩
 | some a=>
   obtain⟨hD,hE,ky,kz,h2,k1,k2,gv⟩:=N6 hF ht h;rw[h2,show EU (some a)=wQ a from rfl,show ∀b:List Th,EU (some b)=wQ b from λb=>rfl];obtain⟨r1,r2,l1,l2,lq⟩:=R6 (D:=D) (E:=E') (B:=AD w D) (C:=AD (AH w D) E') hF.rd hF.re (FC _ hF.rd.1) (FC _ hF.re.1) (λe=>by rw[<-k1,e]);rw[<-k1] at l1 lq l2;have k_:lessL [.tuple (AS D),(AD (AH w E') D).d] [.tuple (AS E'),(AD w E').d]=some r2:=by rw[k2];exact l2
   repeat (first | walk_at "dl" | refine G5 ?_)
   refine cI gv ?_;walk_at "r";refine BI ?_;walk_at "r";refine GD (r:=r1) hF hD ky (by rw[<-k1];exact l1) ?_;walk_at "r";refine BI ?_;walk_at "r";refine GD (r:=r2) hF.swap hE kz k_ ?_;rw[k2,<-k1,<-lq];have p1:=EW (B:=AD w D) hF.rd.1 (FC w hF.rd.1);have p2:=EW (B:=AD w E') hF.re.1 (FC w hF.re.1);have sh:zH (.list (if r1=true then [prX E' (AD w E'),prX D (AD w D)] else [prX D (AD w D),prX E' (AD w E')]))=true:=by
     cases r1;. exact J8 p1 p2
     . exact J8 p2 p1
   refine ZY (CB sh sh ?_);rw[if_neg nft,ET sh];exact⟨M,zT M,rfl,rfl⟩
end
def FT:List Str:=["_law_names_here", "_law_one", "_law_other", "_law_worlds_here", "_law_told"]
def EJ:List Str:=["_law_world", "_law_one", "_law_other"]
def BH:List (Option Nat):=[none,some 1,some 2]
theorem HV:EJ.Nodup:=by decide +kernel
theorem FU:FnScope FT ["_law_names_here", "_law_one", "_law_other"] (AC BS):=⟨rfl,rfl,rfl,by decide +kernel,rfl,by decide +kernel,by decide +kernel⟩
section
local macro_rules | `(tactic| walk_at "cs")=>`(tactic| first | exact @TR _ _ EJ BH (AC BS) FT (by decide +kernel) (by decide +kernel) rfl rfl)
local macro_rules | `(tactic| walk_at "y")=>`(tactic| first | ((with_reducible show PE _ (.Compare _ [.NotEq] ..) _);exact @BX _ _ _ _ _ _ _ _ (@dE _ K rfl hu) (by walk_at "e") (by walk_at "e") (@DH _ _ (by decide) (by decide))))
theorem JT {f:Addr}{fd:FuncData}(F:Fun K "_law_right" "_law_right" BS f fd) (dO:mg "all"=none) (dN:mg "any"=none) (ag:Has P w K mg base "_law_done" 4 ["_law_world", "_law_row"] EY) (bf:Has P w K mg base "_law_same" 5 ["_law_world", "_law_one", "_law_other"] GF) (ap:Has P w K mg base "_law_worlds" 1 ["_law_names_here"] EB) (dP:Has P w K mg base "touch" 3 ["one", "other"] P9):FnOk P w K mg base CX0 6 f fd ["_law_names_here", "_law_one", "_law_other"] (spD K 3 DY):=by
 refine fnD F FU λcdv A outer s H E hr=>?_;have hu:=hr.units;have nd:=FU.nd;have n0:=HV;refine⟨_,by walk_at "b2", ?_⟩;clear nd n0;rintro xs M hl ⟨ys,D,E',rfl,hD⟩;unfold rtX;have fin:∃M2:Own,M2.Sub M/\DY.post (rtX ys D E') M (.d (.bool true)) M2:=⟨M,zT M,rfl,rfl⟩
 walk_at "r";refine NA hD.few λws fw gr=>?_;have hF:∀w∈ws,Few ys w D E':=λw hw=>hD.at (gr w hw);have sz:(ws.map wQ).length < sizeLine:=by rw[zX];exact zQ fw (by decide)
 walk_at "r";refine IM ⟨⟨D,rfl,hD.rd.1⟩,⟨E',rfl,hD.re.1⟩⟩ ?_;cases ht:B7 D.d E'.d with
 | false=>
   walk_at "r";refine AU (CU 0) (by simp[BH]) ?_;refine CL ?_;walk_at "r";refine⟨sz,λ_=>true,GZ λ_=>.bool true,?_,?_⟩;. intro d hd M';obtain⟨w,hw,rfl⟩:=zL.mp hd;walk_at "dl";refine⟨rfl,?_⟩;walk_at "dl";refine⟨rfl,rfl,λ_=>?_⟩;walk_at "r";refine NB (hF w hw) ht ?_;exact⟨by rw[FF],rfl⟩
   rw[W4,F0 λ_=>true];walk_at "r";refine NV ?_;rw[show(ws.map λ_=>true).all id=true from List.all_eq_true.mpr λb hb=>by obtain⟨_,_,rfl⟩:=zL.mp hb;rfl];exact fin
 | true=>
   walk_at "r";have sD:=DX hD.rd.1;have sE:=DX hD.re.1;refine CB sD sE ?_;rw[if_neg nft];cases he:a0V D.d E'.d with
   | true=> walk_at "r";exact fin
   | false=>
     have ck:D≠E':=λe=>by rw[e,ET sE] at he;cases he
     walk_at "r";refine AU (CU 0) (by simp[BH]) ?_;refine CL ?_;walk_at "r";refine⟨sz,λ_=>true,GZ λw=>.bool (AZ w D E').isNone,?_,?_⟩;. intro d hd M';obtain⟨w,hw,rfl⟩:=zL.mp hd;walk_at "dl";refine⟨rfl,?_⟩;walk_at "dl";refine⟨rfl,rfl,λ_=>?_⟩;walk_at "r";refine BI ?_;walk_at "r";refine C9 (hF w hw) ?_;walk_at "r";refine G5 ?_;rw[FF];exact⟨by cases AZ w D E' <;> rfl,rfl⟩
     rw[W4,F0 λw=>(AZ w D E').isNone];walk_at "r";refine NV ?_;cases hall:(ws.map λw=>(AZ w D E').isNone).all id with
     | true=> walk_at "r";exact fin
     | false=>
       walk_at "r";refine AU (CU 0) (by simp[BH]) ?_;refine CL ?_;walk_at "r";refine⟨sz,λ_=>true,GZ λw=>.bool (neB (AZ w D E') (AZ w E' D)),?_,?_⟩;. intro d hd M';obtain⟨w,hw,rfl⟩:=zL.mp hd;walk_at "dl";refine⟨rfl,?_⟩;walk_at "dl";refine⟨rfl,rfl,λ_=>?_⟩;walk_at "r";refine BI ?_;walk_at "r";refine C9 (hF w hw) ?_;walk_at "r";refine BI ?_;walk_at "r";refine C9 (hF w hw).swap ?_;refine a8 ?_;exact⟨by rw[FF],rfl⟩
       rw[W4,F0 λw=>neB (AZ w D E') (AZ w E' D)];walk_at "r";refine SM ?_;rw[show(ws.map λw=>neB (AZ w D E') (AZ w E' D)).any id=true from by
         obtain⟨b,hb,jb⟩:=List.all_eq_false.mp hall;obtain⟨w,hw,rfl⟩:=zL.mp hb;cases h:AZ w D E' with
         | none=>rw[h] at jb;exact absurd rfl jb
         | some a=>exact List.any_eq_true.mpr ⟨_,zL.mpr ⟨w,hw,rfl⟩,WE (hF w hw) ht ck h⟩];exact fin
end
def aA:List Str:=["_law_script", "_law_k", "_law_pack_here", "_law_names_here", "_law_turn"]
theorem UB:FnScope aA ["_law_script"] (AC PN):=⟨rfl,rfl,rfl,by decide +kernel,rfl,by decide +kernel,by decide +kernel⟩
theorem aB {f:Addr}{fd:FuncData}(F:Fun K "law" "law" PN f fd) (bb:mg "len"=none) (fo:mg "max"=none) (fq:mg "min"=none) (ak:mg "range"=none) (ai:Has P w K mg base "_law_any_deed" 2 ["_law_pack_here", "_law_names_here"] HZ) (ay:Has P w K mg base "_law_names" 2 ["_law_pack_here", "_law_amount"] CG) (bg:Has P w K mg base "_law_pack" 2 ["_law_script", "_law_k"] CZ) (az:Has P w K mg base "_law_right" 6 ["_law_names_here", "_law_one", "_law_other"] DY) (ab:Has P w K mg base "_law_take" 1 ["_law_pack_here", "_law_size"] BM):FnOk P w K mg base CX0 7 f fd ["_law_script"] (spD K 1 MY):=by
 refine fnD F UB λcdv A outer s H E hr=>?_;have hu:=hr.units;have nd:=UB.nd;refine⟨_,by walk_at "b2", ?_⟩;clear nd;rintro xs M hl ⟨ns,rfl,fL,hb⟩;walk_at "dl";refine GR ?_;refine F4 ?_;walk_at "r";refine F5 ?_;rw[zX];walk_at "r";have f9:∀z:Int,z=(if (if (10:Int) < (ns.length:Int) then (10:Int) else (ns.length:Int)) > 1 then (if (10:Int) < (ns.length:Int) then (10:Int) else (ns.length:Int)) else 1)->0<=z/\z<=10:=λz hz=>by split at hz <;> split at hz <;> lia
 obtain⟨r0,r1⟩:=f9 _ rfl;revert r0 r1;generalize (if (if (10:Int) < (ns.length:Int) then (10:Int) else (ns.length:Int)) > 1 then (if (10:Int) < (ns.length:Int) then (10:Int) else (ns.length:Int)) else 1)=z;intro r0 r1;refine⟨by lia,by lia,?_⟩;refine⟨λk ρ' M'=>M.Sub M'/\∃a b c d,ρ'=[some (.d (.list (ns.map .int))),a,b,c,d],⟨zT M,_,_,_,_,rfl⟩,?_,?_⟩
 . rintro k d ρ' M1 hd ⟨eT,a1,b1,c1,d1,rfl⟩;have hk:k < z.toNat:=by have:=(yU.mp hd).1;simpa [BU] using this
   have k0:d = .int (k:Int):=by unfold BU at hd;rw[zF,List.getElem?_range hk] at hd;simp at hd;exact hd.symm
   subst k0;walk_at "r";refine QR (by lia) hb λp o hp ho=>?_;walk_at "r";refine B2 zU ho (by decide) (by decide) λv o1 v0 v1 fg=>?_;rw[yJ];walk_at "r";refine O3 zU fg (by lia) (by lia) λys o2 kJ hy _ jc cy=>?_;rw[yJ];walk_at "r";refine GR ?_;refine F4 ?_;walk_at "r";refine⟨by decide,by decide,?_⟩;refine⟨λk2 ρ' M'=>∃o3 b,CN o3/\M'=M1.put p o3/\ρ'=[some (.d (.list (ns.map .int))),some (.d (.int k)),some (.loc p),some (.d (.list (ys.map .str))),b],⟨o2,_,cy,rfl,rfl⟩,?_,?_⟩
   . rintro k2 d2 ρ2 M2 hd2 ⟨o3,b2,fi,rfl,rfl⟩;have iw:∃i:Int,d2 = .int i:=by obtain⟨i,_,rfl⟩:=zL.mp (List.mem_of_getElem? hd2);exact⟨_,rfl⟩
     obtain⟨i2,rfl⟩:=iw;walk_at "r";refine J7 (ys:=ys) zU fi (by lia) (by lia) hy jc λD o4 hD nD iq=>?_;rw[yJ];walk_at "r";refine J7 (ys:=ys) zU iq (by lia) (by lia) hy jc λE1 o5 k5 nE ir=>?_;rw[yJ];walk_at "r";refine LG (ys:=ys) ⟨by lia,hD,k5,nD,nE⟩ ?_;walk_at "r";exact⟨o5,_,ir,rfl,rfl⟩
   . rintro ρ2 M2 ⟨o3,b2,fi,rfl,rfl⟩;walk_at "r";exact⟨eT.put (TX eT hp),_,_,_,_,rfl⟩
 . rintro ρ' M1 ⟨eT,a1,b1,c1,d1,rfl⟩;walk_at "r";exact⟨M,eT,rfl⟩
end
end DL
namespace DL
open PySem PySem.Spec L2
local macro_rules | `(tactic| walk_at "b1")=>`(tactic| exact λ_ _ _ _ _ _ us hl=>match us,hl with | [_],_=>rfl)
local macro_rules | `(tactic| walk_at "b2")=>`(tactic| exact λ_ _ _ _ _ _ us hl=>match us,hl with | [_,_],_=>rfl)
local macro_rules | `(tactic| walk_at "b3")=>`(tactic| exact λ_ _ _ _ _ _ us hl=>match us,hl with | [_,_,_],_=>rfl)
set_option hygiene false in
local macro_rules | `(`hhh)=>`(Has l.prog w K mg base _ _ _ _)
theorem aC {l:PySem.W.OpenLaw}{w:World}{K:Frg}{h:Heap}{mg:Str->Option Value}{fa:Addr}{af:Addr}{dR:Nat}{cp:Tok}{cq:Tok}{cu:Tok}{bz:Addr}{eh:Nat}{de df:Tok}{dg dh:Tok}{di dj:Tok}{dk dm:Tok}{dn dq:Tok}{dr du:Tok}{dw dy:Tok} (X:K.In h) (G:h.Ns mainGlobals mg) (k6:mg "law"=some (.ref fa)) (b0:FnIn K "form_of" FG) (b1:FnIn K "names_in" EC) (b2:FnIn K "use_of" GG) (b3:FnIn K "may_share" D7) (b4:FnIn K "touch" GH) (b5:FnIn K "_law_mixed" CI) (b6:FnIn K "_law_pack" D8) (b7:FnIn K "_law_take" D9) (b8:FnIn K "_law_names" BC) (b9:FnIn K "_law_any_deed" BG) (jd:FnIn K "_law_named" CJ) (je:FnIn K "_law_made" DB) (jf:FnIn K "_law_can" CT) (jg:FnIn K "_law_do" FH) (jh:FnIn K "_law_done" DC) (ji:FnIn K "_law_back" DD) (jj:FnIn K "_law_worlds" BZ) (jk:FnIn K "_law_backs" CK) (jl:FnIn K "_law_same" DF) (jm:FnIn K "_law_right" BS) (jn:FnIn K "law" PN) (ei:a1W K mainGlobals "all"=some none) (ej:a1W K mainGlobals "any"=some none) (dz:a1W K mainGlobals "dict"=some none) (bq:a1W K mainGlobals "divmod"=some none) (eo:a1W K mainGlobals "int"=some none) (ah:a1W K mainGlobals "isinstance"=some none) (er:a1W K mainGlobals "len"=some none) (d_:a1W K mainGlobals "list"=some none) (et:a1W K mainGlobals "max"=some none) (eu:a1W K mainGlobals "min"=some none) (b_:a1W K mainGlobals "range"=some none) (br:a1W K mainGlobals "sorted"=some none) (ez:a1W K mainGlobals "str"=some none) (bt:a1W K mainGlobals "ADDING"=some (some (.ref af))) (bu:K.lookup af=some { cls:=.type "tuple", data:=.seq #[.str (a0Q "count") cp,.str (a0Q "split") cq,.str (a0Q "join") cu] dR }) (cb:a1W K mainGlobals "FORMS"=some (some (.ref bz))) (cc:K.lookup bz=some { cls:=.type "dict", data:=.dict #[{ hash:=a3V w.params (a0Q "put"),key:=.str (a0Q "put") de,val:=.str (a0Q "npk") df },{ hash:=a3V w.params (a0Q "take"),key:=.str (a0Q "take") dg,val:=.str (a0Q "n") dh },{ hash:=a3V w.params (a0Q "move"),key:=.str (a0Q "move") di,val:=.str (a0Q "np") dj },{ hash:=a3V w.params (a0Q "count"),key:=.str (a0Q "count") dk,val:=.str (a0Q "nk") dm },{ hash:=a3V w.params (a0Q "name"),key:=.str (a0Q "name") dn,val:=.str (a0Q "nn") dq },{ hash:=a3V w.params (a0Q "split"),key:=.str (a0Q "split") dr,val:=.str (a0Q "nnpk") du },{ hash:=a3V w.params (a0Q "join"),key:=.str (a0Q "join") dw,val:=.str (a0Q "nn") dy }] eh }) (cf:(bz==sysModules)=false) : ∃fd:FuncData,(∀(s:Shared) (v:Value),BindsTo s fd ⟨[v],[]⟩ [("_law_script", v)])/\∀base:Heap,K.In base->base.Ns mainGlobals mg->FnOk l.prog w K mg base CX0 7 fa fd ["_law_script"] (spD K 1 MY):=by
 obtain⟨_,_,A0⟩:=b0.at X G;obtain⟨_,_,A1⟩:=b1.at X G;obtain⟨_,_,A2⟩:=b2.at X G;obtain⟨_,_,A3⟩:=b3.at X G;obtain⟨_,_,A4⟩:=b4.at X G;obtain⟨_,_,A5⟩:=b5.at X G;obtain⟨_,_,A6⟩:=b6.at X G;obtain⟨_,_,A7⟩:=b7.at X G;obtain⟨_,_,A8⟩:=b8.at X G;obtain⟨_,_,A9⟩:=b9.at X G;obtain⟨_,_,jo⟩:=jd.at X G;obtain⟨_,_,jp⟩:=je.at X G;obtain⟨_,_,jq⟩:=jf.at X G;obtain⟨_,_,jr⟩:=jg.at X G;obtain⟨_,_,js⟩:=jh.at X G;obtain⟨_,_,jt⟩:=ji.at X G;obtain⟨_,_,ju⟩:=jj.at X G;obtain⟨_,_,jv⟩:=jk.at X G;obtain⟨_,_,jw⟩:=jl.at X G;obtain⟨_,_,jx⟩:=jm.at X G;obtain⟨kK,k7,ix⟩:=jn.at X G;have e:=k6.symm.trans ix.mg_;cases e;have dO:=a1Q X G ei;have dN:=a1Q X G ej;have a_:=a1Q X G dz;have cn:=a1Q X G bq;have fj:=a1Q X G eo;have aq:=a1Q X G ah;have bb:=a1Q X G er;have c_:=a1Q X G d_;have fo:=a1Q X G et;have fq:=a1Q X G eu;have ak:=a1Q X G b_;have bp:=a1Q X G br;have fh:=a1Q X G ez;have au:mg "ADDING"=some (.ref af)/\ZL K af ["count", "split", "join"]:=⟨PySem.W.mg_of X G bt,_,_,bu,by show 3<=sizeLine;decide,.cons _ _ (.cons _ _ (.cons _ _ (.nil)))⟩
 have bx:∃a,mg "FORMS"=some (.ref a)/\GDict w K a HF:=⟨_,PySem.W.mg_of X G cb,cf,by decide +kernel,_,_,cc,rfl,⟨_,rfl⟩,⟨_,rfl⟩,rfl,⟨_,rfl⟩,⟨_,rfl⟩,rfl,⟨_,rfl⟩,⟨_,rfl⟩,rfl,⟨_,rfl⟩,⟨_,rfl⟩,rfl,⟨_,rfl⟩,⟨_,rfl⟩,rfl,⟨_,rfl⟩,⟨_,rfl⟩,rfl,⟨_,rfl⟩,⟨_,rfl⟩,trivial⟩
 refine⟨k7,λs v=>?_,λbase _ _=>?_⟩;. obtain⟨oc,od,kV,doc,pm,an,cdv,ct,osl,e,_,_⟩:=ix.fn.ex;subst e;exact .of_eq rfl
 have bw:`hhh:=A0.has (OI A0.fn aq fh bx) (by walk_at "b1");have bj:`hhh:=A1.has (NF A1.fn bw) (by walk_at "b1");have cm:`hhh:=A2.has (RD A2.fn au) (by walk_at "b2");have ba:`hhh:=A3.has (LI A3.fn cm) (by walk_at "b3");have dP:`hhh:=A4.has (UA A4.fn dN ba bj) (by walk_at "b2");have av:`hhh:=A5.has (JM A5.fn ) (by walk_at "b1");have bg:`hhh:=A6.has (LK A6.fn bb av) (by walk_at "b2");have ab:`hhh:=A7.has (LM A7.fn cn) (by walk_at "b2");have ay:`hhh:=A8.has (JN A8.fn ak ab) (by walk_at "b2");have ai:`hhh:=A9.has (HA A9.fn bb ab) (by walk_at "b2");have aw:`hhh:=jo.has (JP jo.fn fj c_) (by walk_at "b1");have bc:`hhh:=jp.has (LO jp.fn ) (by walk_at "b1");have bo:`hhh:=jq.has (NI jq.fn dO bc aw) (by walk_at "b2");have ao:`hhh:=jr.has (OL jr.fn a_ bo) (by walk_at "b2");have ag:`hhh:=js.has (LQ js.fn ao) (by walk_at "b2");have be:`hhh:=jt.has (LS jt.fn ) (by walk_at "b2");have ap:`hhh:=ju.has (JE ju.fn a_ bb ak) (by walk_at "b1");have ax:`hhh:=jv.has (JS jv.fn bp be ao) (by walk_at "b2");have bf:`hhh:=jw.has (LV jw.fn ax ag) (by walk_at "b3");have az:`hhh:=jx.has (JT jx.fn dO dN ag bf ap dP) (by walk_at "b3");exact aB ix.fn bb fo fq ak ai ay bg az ab
theorem aD {K:Frg}{H:Hp}{a:Addr}{ns:List Int}(hl:ns.length<=63) (hb:∀i∈ns,xL i<=2 ^ 20) (hS:SqL K H a (ns.map V.int)):spD K 1 MY [.ref a] H (λv _=>v = .bl true) λ_ _ _=>False:=by
 refine⟨[.d (.list (ns.map .int))],λ_=>none,rfl,(λa o e=>nomatch e),⟨.ref a,[],rfl,?_,rfl⟩,⟨ns,rfl,hl,hb⟩,λx M' v H' post st oa si=>?_⟩
 . unfold SI DV;refine⟨a,ns.map V.int,rfl,?_,HH⟩;rcases hS with h | h;. exact .inl ⟨λw=>w rfl,h⟩
   . exact .inr h
 . have e:x = .d (.bool true):=post;subst e;exact WX si
theorem dH {l:PySem.W.OpenLaw}{q:Program}{loose:List Str}{XP:(Str->Option Value)->Heap->Prop}{YP:World->Heap->Prop}{d:DefRec}{K:Params->Frg}(hn:l.most=some 63) (ie:d.params.defaults=[]) (hY:∀(w:World) (h:Heap),YP w h->(K w.params).In h) (F:∀(w:World) (mg:Str->Option Value) (fa:Addr) (h:Heap),(K w.params).In h->h.Ns mainGlobals mg->mg d.name=some (.ref fa) ->∃fd:FuncData,(∀(s:Shared) (u:Value),BindsTo s fd ⟨[u],[]⟩ [("_law_script", u)])/\∀base:Heap,(K w.params).In base->base.Ns mainGlobals mg->FnOk l.prog w (K w.params) mg base CX0 7 fa fd ["_law_script"] (spD (K w.params) 1 MY)) :
   PySem.W.WalkO q loose XP YP l.row.toRowW d [] (λf vs=>PySem.call f vs):=
 L2.T1 (n:=63) (k:=7) (x:= "_law_script") (CX:=λ_=>CX0) (sp:=λw=>spD (K w.params) 1 MY) hn (by decide) ie ⟨rfl,by decide,by decide⟩ hY F (λ_ _ a ns hl hb _ hS=>aD hl hb hS) λ_ _ _ _ _ z=>z
end DL
open PySem PySem.W PyProof.Rows
set_option maxRecDepth 100000 in
set_option maxHeartbeats 0 in
theorem PySem.Challenge.cw_struckdeeds_k24_whole_touching_by_worlds_holds : PySem.Challenge.rw_struckdeeds_k24_whole_touching_by_worlds.Holds := by
 w_on
 refine PySem.W.holds_law DL.hS λiy=>?_;refine PySem.W.holds_open (q:=DL.hV) (loose:=[a0Q "FORMS"]) (Xt:=(λs=>PySem.W.xlAt DL.hV [] s&&PySem.W.recOk (a6V (a5X (a7Q PySem.Challenge.rw_struckdeeds_k24_whole_touching_by_worlds))) s)) (XP:=PySem.W.XL DL.hV []) (Yf:=a8W (a3Q DL.hK DL.hA DL.hE)) (Ya:=a8K (a3Q DL.hK DL.hA DL.hE)) (YP:=PySem.W.Hook.says (a3Q DL.hK DL.hA DL.hE)) (N:=1712) DL.hL (PySem.W.Hook.of (a3Q DL.hK DL.hA DL.hE)) (PySem.W.Hook.keeps (a3Q DL.hK DL.hA DL.hE)) (λs e=>PySem.W.xl_of s (Bool.and_eq_true_iff.mp e).1) PySem.W.XL.keeps (by rfl) (by rfl) (by rfl) (λs e=>PySem.W.recFacts_of (Bool.and_eq_true_iff.mp e).2) rfl iy (by decide +kernel) ⟨rfl,rfl,rfl,rfl,rfl,by decide +kernel⟩ ?hw ?hc
 (case hw=>w_witness2)
 k_fill
 refine DL.dH (l:=PySem.Challenge.rw_struckdeeds_k24_whole_touching_by_worlds) rfl rfl (λw h Y=>PySem.W.kIn_of Y) ?F
 case F=>
   intro w mg fa h KX G fW;refine' DL.aC KX G fW ?b0 ?b1 ?b2 ?b3 ?b4 ?b5 ?b6 ?b7 ?b8 ?b9 ?jd ?je ?jf ?jg ?jh ?ji ?jj ?jk ?jl ?jm ?jn ?ei ?ej ?dz ?bq ?eo ?ah ?er ?d_ ?et ?eu ?b_ ?br ?ez ?bt ?bu ?cb ?cc ?cf;all_goals (first | (refine' DL.WH ?fa ?fl ?fc ?fk;(case fa=>k_is);(case fl=>k_is);(case fc=>k_is);(case fk=>k_is)) | skip)
   (case ei=>k_is)
   (case ej=>k_is)
   (case dz=>k_is)
   (case bq=>k_is)
   (case eo=>k_is)
   (case ah=>k_is)
   (case er=>k_is)
   (case d_=>k_is)
   (case et=>k_is)
   (case eu=>k_is)
   (case b_=>k_is)
   (case br=>k_is)
   (case ez=>k_is)
   (case bt=>k_is)
   (case bu=>k_is)
   (case cb=>k_is)
   (case cc=>k_is)
   (case cf=>decide)
#print axioms PySem.Challenge.cw_struckdeeds_k24_whole_touching_by_worlds_holds
