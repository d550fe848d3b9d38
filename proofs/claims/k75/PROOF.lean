import PyProof.Rows.All
import Wide.All
import OpenK.AllK
import Wide.FinOn
import Lean
import PyProof.EqAt
import PyProof.EqKinds
import PyProof.TupleCall
import KE.KRevIter
import PyProof.P3In
import PyProof.SumAnyB
import PyProof.CollectIter
import KE.KIntText
import PyProof.NeKinds
import KE.KEqDict
import PyProof.ListRange
import PyProof.TupleOfSeq
import PyProof.Draws
import KE.KIsAll
import PyProof.WalksS
import PyProof.CollectWalk
import PyProof.SetRoads
import PyProof.Rows.SetFrom
import PyProof.RulesAssignMore
import PySem.Challenge.RW_struckdeeds_k75_books_as_texts
set_option Elab.async false
set_option linter.all false
set_option maxRecDepth 100000
set_option compiler.extract_closed false
set_option maxHeartbeats 4000000
open PySem.Str renaming ofString → a0Q, join → b4Z
open PySem.PyData renaming str → a0X, eqv → a0W, depthAll → a1V, tuple → a3J, depth → a4V, keyHash → b0V, strOk → b4Q, int → b7X, canLay0 → b9W, canLayAll0 → c0Z
open PySem.Value renaming ref → a0Z, none → a4Q, str → b8Z
open PySem.Txt renaming partition → a0J, slice → a1X, split → a3V, join → a7K, startswith → b1J
open Array renaming length_toList → a0K, getElem?_toList → a9Q, getElem?_eq_getElem → a9Z, getElem?_eq_none → b6Z, getD_eq_getD_getElem? → b8J
open Bool renaming and_eq_true → a0V, eq_iff_iff → b0Q, false_eq_true → b5K, not_eq_true' → c1W
open PySem.F renaming plainAttrs_str → a1Q, type_str_join → a6X, slot_str_join → a6Z, slot_str_split → b0Z, slot_dict_get → b1K, slot_tuple_iterator_next → b3W, type_str_startswith → b7Z, slot_str_startswith → b7J, args_tuple_add_2 → c0Q, slot_str_partition → c0W, plainAttrs_dict → c0V, entry_tuple_add → c1Q, type_str_split → c1V, slot_tuple_add → c2Q, entry_dict_get → c2X
open List renaming getElem?_eq_none → a1Z, mem_cons_self → a1J, length_take → a2Z, forall_mem_cons → a2J, take_length → a2K, lookup_cons → a3X, range → a3Z, take_add_one → a4X, drop_eq_nil_of_le → a4J, replicate → a4K, getElem?_zip_eq_some → a4W, zip_cons_cons → a6J, length_drop → a6K, all_eq_true → a6W, mem_of_mem_take → a7J, map_nil → a7W, append_assoc → a8Q, length_nil → a8X, take_of_length_le → a8Z, filter_cons → a8V, find?_cons → a9W, append_nil → a9V, filterMap_cons → b0W, drop_zero → b1Z, pairwise_cons → b1V, length_zip → b2Z, length_replicate → b2J, pairwise_map → b2W, ext_getElem? → b2V, replicate_succ → b4J, filter_sublist → b4K, length_zipIdx → b5Z, any_cons → b5J, drop_left → b6J, take_eq_take_iff → b6K, mem_of_mem_head? → b6W, getElem_mem → b7Q, getElem?_zipIdx → b7W, getElem?_set_ne → b7V, map_take → b8Q, map_drop → b8X, of_mem_zip → b8V, mem_singleton → c0X, drop_eq_getElem_cons → c0K, eq_of_mem_replicate → c1J, any_eq_false → c1K, sum_cons → c2W, map_id → c2V, length → c3Q
open Sum renaming inr → a1K
open PySem.W renaming nsIn → a1W, mg_none_of → a2X, kia_one → a2V, boot_heap → a5K, mg_of → a6V, kHook → a7Q, topRun → a7Z, segRunT → a9J, fnOf → a9K, piecesOf → b0X, segRun_of → b2Q, restOf → b3Q, keepIn → b3X, piece_app → b5W, boot_drawn → b8K, codeIn → b9Q, boot_toks → b9V
open Nat renaming le_add_right → a2Q, add_le_add_left → a3Q, add_sub_cancel_left → a4Z, ne_of_gt → a5X, add_le_add_right → a5J, le_of_not_lt → a7X, add_le_add → a7V, min_eq_left → b2K, le_of_eq → b5X, min_eq_right → b7K, le_succ → b9K, lt_trichotomy → c2Z, lt_succ_of_lt → c2J
open Option renaming some → a2W, isSome_map → c0J, none → c1Z
open PySem.Builtin.SmallTypes renaming nextOf → a3K, ownedTupleIsFree → a5V, ownedTupleHandOut → b9J
open PySem.Builtin.Str renaming strKind → a3W, strSliceIndices → a5Q, occurrences → a6Q
open List.Sublist renaming refl → a5Z
open PySem renaming mem_of_lookup → a5W
open PySem.NameKind renaming free → a8J
open PyProof.Rows renaming slot_tuple_getitem → a8K, boot_str → b0K, boot_tuple → b8W
open True renaming intro → a8W
open PySem.Obj renaming mapSeq → a9X
open PySem.Builtin.List renaming listExtendWith → b0J
open PySem.Heap renaming size_push → b1Q
open PySem.Calls renaming callWith_builtin → b1X, evalArgs_plain → b3Z, spliced_nil → c1X
open PySem.Builtin.Slice renaming slicePlaces → b1W, sliceAdjust → b6V
open PySem.Builtin.Tuple renaming tupleExact → b2X
open Int renaming toNat_natCast → b3J, natCast_nonneg → b6X
open PySem.W.OpenRow renaming toRowW → b3K
open PySem.W.WData renaming int → b3V
open ForInStep renaming yield → b4X
open False renaming elim → b4W
open PySem.Spec renaming ltCps → b4V
open Ne renaming symm → b5Q
open PySem.W.RowW renaming records → b5V
open PySem.W.OpenLaw renaming row → b6Q
open PySem.W.Hook renaming val → b9X, obs → b9Z
open PySem.Heap.SameBut renaming update → c2K
open PySem renaming wpAny_bind → zZ, wpAny_pure → zY, wpAny_newObj_type → xM
open List renaming length_map → zX, getElem?_eq_getElem → zV, mem_map → zL, size_toArray → zJ, map_cons → zI, getElem?_map → zF, map_map → zD, mem_append_right → zB, length_append → yY, mem_cons → yX, mem_append → yW, mem_cons_of_mem → yV, getD_eq_getElem?_getD → yU, getElem?_eq_some_iff → yT, length_cons → yR, getElem?_append_left → yQ, getElem?_append_right → yP, mem_of_getElem? → yN, map_congr_left → yM, mem_filter → yL, length_filter_le → yJ, getElem?_range → yA, length_range → xZ, not_mem_nil → xX, nodup_cons → xV, map_append → xI
open PySem.Heap renaming get?_push_of_some → zW, lt_size → zM, get?_push_size → yZ
open Nat renaming le_refl → zR, lt_of_le_of_lt → zQ, lt_of_lt_of_le → zP, le_trans → zN, ne_of_lt → zC, lt_irrefl → yF, le_of_ble_eq_true → yD, zero_le → xT, le_of_lt → xR
open PySem.SeqAt renaming shaped → zH, canLay_of_shaped → zG
open PySem.Calls renaming spliced_cons → xP
open PySem.Builtin.Int renaming intBits → xJ
open PyProof.Rows renaming callWith_type1 → xH, sortedS → xG
abbrev sT (n:Nat):PySem.Stmt:=PySem.Challenge.pw_struckdeeds_k75_books_as_texts.main.body.getD n (.Pass ⟨0,0,0,0⟩)
abbrev Frg:=PySem.W.Frag
theorem nft:¬(false=true):=Bool.false_ne_true
namespace L2
open PySem PySem.Spec PyProof.Rows
abbrev Key:=Sum Int Str
def KZ:Key->Value->Bool
 | .inl k,v=>Value.isInt k v
 | .inr x,v=>Value.isStrOf x v
def xL (w:World):Key->Int
 | .inl k=>hashInt k
 | .inr x=>hashStr w x
theorem AS:∀{k:Key}{v:Value},KZ k v=true->(∃i t,k=Sum.inl i/\v=Value.int i t)∨(∃x t,k=a1K x/\v=b8Z x t)
 | .inl i,v,h=>by
   obtain⟨t,e⟩:=Value.isInt_shape (k:=i) (v:=v) h
   exact .inl ⟨i,t,rfl,e⟩
 | .inr x,v,h=>by
   obtain⟨t,e⟩:=Value.isStrOf_shape (x:=x) (v:=v) h
   exact .inr ⟨x,t,rfl,e⟩
theorem fU (i:Int) (t:Tok):KZ (.inl i) (.int i t)=true:=by simp[KZ,Value.isInt]
theorem fV (x:Str) (t:Tok):KZ (.inr x) (.str x t)=true:=by simp[KZ,Value.isStrOf]
theorem t9 (a b:Int):decide ((Sum.inl a:Key)=Sum.inl b)=(a==b):=by
 by_cases e:a=b
 · subst e;simp
 · have h:¬(Sum.inl a:Key)=Sum.inl b:=fun q=>e (Sum.inl.inj q)
   rw[decide_eq_false h]
   exact(beq_eq_false_iff_ne.mpr e).symm
theorem tD (a b:Str):decide ((a1K a:Key)=a1K b)=decide (a=b):=by
 by_cases e:a=b
 · subst e;simp
 · have h:¬(a1K a:Key)=a1K b:=fun q=>e (Sum.inr.inj q)
   rw[decide_eq_false h,decide_eq_false e]
theorem tE (a:Int) (b:Str):decide ((Sum.inl a:Key)=a1K b)=false:=decide_eq_false (fun q=>nomatch q)
theorem tF (a:Str) (b:Int):decide ((a1K a:Key)=Sum.inl b)=false:=decide_eq_false (fun q=>nomatch q)
def AM (prog:Program) (w:World):PySem.KeyKind prog w Key where
 is:=KZ
 hash:=xL w
 inj:=fun v a b ha hb=>by
   rcases AS ha with ⟨i,t,rfl,rfl⟩ | ⟨x,t,rfl,rfl⟩
   · rcases AS hb with ⟨j,u,rfl,e⟩ | ⟨y,u,rfl,e⟩
     · injection e with e1 _;rw[e1]
     · exact nomatch e
   · rcases AS hb with ⟨j,u,rfl,e⟩ | ⟨y,u,rfl,e⟩
     · exact nomatch e
     · injection e with e1 _;rw[e1]
 byValue:=fun k v h=>by
   rcases AS h with ⟨i,t,rfl,rfl⟩ | ⟨x,t,rfl,rfl⟩ <;> rfl
 pyHash:=fun hv h=>by
   rcases AS hv with ⟨i,t,rfl,rfl⟩ | ⟨x,t,rfl,rfl⟩
   · exact wpAny_pyHash_int h
   · exact wpAny_pyHash_str h
 eqBool:=fun hu hv h=>by
   rcases AS hu with ⟨i,t,rfl,rfl⟩ | ⟨x,t,rfl,rfl⟩
   · rcases AS hv with ⟨j,u,rfl,rfl⟩ | ⟨y,u,rfl,rfl⟩
     · rw[t9] at h;exact wpAny_eqBool_int h
     · rw[tE] at h;exact SeqAt.EqAt.int_str i t y u _ _ _ _ h
   · rcases AS hv with ⟨j,u,rfl,rfl⟩ | ⟨y,u,rfl,rfl⟩
     · rw[tF] at h;exact SeqAt.EqAt.str_int x t j u _ _ _ _ h
     · rw[tD] at h;exact wpAny_eqBool_str h
 «strs»:=fun k x t v h=>by
   rcases AS h with ⟨i,u,rfl,e⟩ | ⟨y,u,rfl,e⟩
   · exact nomatch e
   · injection e with e1 _
     subst e1
     cases v <;> rfl
theorem XE (prog:Program) (w:World) (i:Int) (t:Tok):(AM prog w).is (.inl i) (.int i t)=true:=fU i t
theorem OE (prog:Program) (w:World) (x:Str) (t:Tok):(AM prog w).is (.inr x) (.str x t)=true:=fV x t
inductive V where
 | non | bl (b:Bool) | int (i:Int) | str (x:Str) | byt (b:Array UInt8) | flt (b:UInt64) | ref (a:Addr) | ty (n:String)
 deriving DecidableEq
def RelV:V->Value->Prop
 | .non,u=>u=a4Q
 | .bl b,u=>u=Value.bool b
 | .int i,u=>∃t,u=Value.int i t
 | .str x,u=>∃t,u=b8Z x t
 | .byt b,u=>∃t,u=Value.bytes b t
 | .flt b,u=>∃t,u=Value.float b t
 | .ref a,u=>u=a0Z a
 | .ty n,u=>u=Value.type n
abbrev Vals:List V->List Value->Prop:=Paired RelV
theorem Vals.length {xs:List V}{us:List Value}(r:Vals xs us):xs.length=us.length:=Paired.length r
theorem Vals.get:∀{xs:List V}{us:List Value}{i:Nat}{x:V},Vals xs us->xs[i]?=some x->∃u,us[i]?=some u/\RelV x u
 | _,_,_,_,.nil,e=>by simp at e
 | _,_,0,_,.cons r _,e=>by simp at e;subst e;exact⟨_,rfl,r⟩
 | _,_,i+1,x,.cons _ t,e=>by
   obtain⟨u,h1,h2⟩:=Vals.get (i:=i) (x:=x) t (by simpa using e)
   exact⟨u,by simpa using h1,h2⟩
theorem Vals.set {x:V}{u:Value}(r:RelV x u):∀{xs:List V}{us:List Value}(i:Nat),Vals xs us->Vals (xs.set i x) (us.set i u)
 | _,_,_,.nil=>.nil
 | _,_,0,.cons _ t=>.cons r t
 | _,_,i+1,.cons q t=>.cons q (Vals.set r i t)
theorem Vals.append:∀{xs ys:List V}{us ws:List Value},Vals xs us->Vals ys ws->Vals (xs++ys) (us++ws)
 | _,_,_,_,.nil,s=>s
 | _,_,_,_,.cons r t,s=>.cons r (Vals.append t s)
theorem Vals.take:∀{xs:List V}{us:List Value}(n:Nat),Vals xs us->Vals (xs.take n) (us.take n)
 | _,_,0,_=>.nil
 | _,_,_+1,.nil=>.nil
 | _,_,n+1,.cons r t=>.cons r (Vals.take n t)
theorem Vals.drop:∀{xs:List V}{us:List Value}(n:Nat),Vals xs us->Vals (xs.drop n) (us.drop n)
 | _,_,0,r=>r
 | _,_,_+1,.nil=>.nil
 | _,_,n+1,.cons _ t=>Vals.drop n t
def RelO:Option V->Option Value->Prop
 | some v,some u=>RelV v u
 | none,none=>True
 | _,_=>False
def KV {κ:Type}:List (κ×V)->List (κ×Value)->Prop:=Paired fun(p:κ×V) (q:κ×Value)=>p.1=q.1/\RelV p.2 q.2
def kV:Key->V
 | .inl i=>.int i
 | .inr x=>.str x
inductive HO where
 | lst (xs:List V)
 | tup (xs:List V)
 | dK (kvs:List (Key×V)) | dT (kvs:List (List Key×V))
 | set (S:Int->Bool) (n:Nat)
 | ins (C dx:Addr) (fs:List (Str×V))
 | own (x:Addr)
 | xd (fs:List (Str×V))
 | met (f x:Addr)
 | rng (lo hi:Int)
 | frz (o:Obj) (u:HO)
 | tbl (ps:Array Value)
 | ext (φ:Heap->Prop)
abbrev Hp:=Addr->Option HO
def upd (H:Hp) (a:Addr) (o:HO):Hp:=fun b=>if b=a then some o else H b
theorem AH {H:Hp}{a:Addr}{o:HO}:upd H a o a=some o:=by unfold upd;rw[if_pos rfl]
theorem AN {H:Hp}{a b:Addr}{o:HO}(h:b≠a):upd H a o b=H b:=by unfold upd;rw[if_neg h]
theorem xN {H:Hp}{a b:Addr}{o u:HO}(h:H a=some o) (h':H b=some u) (d:o≠u):a≠b:=by
 intro e;subst e;rw[h] at h';exact d (Option.some.inj h')
theorem AZ {H:Hp}{a b:Addr}{o:HO}(h:H a=some o) (h':H b=none):a≠b:=by
 intro e;subst e;rw[h] at h';cases h'
section
variable (P:Program) (w:World)
def ObjOk (H:Hp) (h:Heap) (a:Addr):HO->Prop
 | .lst xs=>xs.length<=sizeLine/\∃(its:List Value) (n:Nat),Vals xs its/\h.get? a=some { cls:=.type "list", data:=.seq its.toArray n }
 | .tup xs=>xs.length<=sizeLine/\∃its:List Value,Vals xs its/\IsTup h a its.toArray
 | .dK kvs=>kvs.length<=sizeLine/\(a==sysModules)=false/\∃vs,KV kvs vs/\h.DictOf (AM P w) a vs
 | .dT kvs=>kvs.length<=sizeLine/\(a==sysModules)=false/\∃xs:List (List Key×Addr×Value),
     Paired (fun(p:List Key×V) (q:List Key×Addr×Value)=>p.1=q.1/\H q.2.1=some (.tup (p.1.map kV))/\RelV p.2 q.2.2) kvs xs /\
     ∃o es ep,h.get? a=some o/\o.ExactDict/\o.data = .dict es ep/\es.toList=xs.map (entryOfKey (tupleKind (AM P w)))/\(xs.map (·.1)).Nodup
 | .set S n=>h.SetOf (intKind P w) a S n
 | .ins C dx fs=>H dx=some (.own a)/\fs.length<=1000/\dx≠a/\h.get? a=some (PySem.W.instObj C dx) /\
     ∃mA,h.Ns1 dx mA/\(∀f,RelO (fs.lookup f) (mA f))/\PySem.Within mA (fs.map (·.1))
 | .own _=>∃o,h.get? a=some o
 | .xd fs=>∃mA,h.Ns1 a mA/\∀f,RelO (fs.lookup f) (mA f)
 | .rng lo hi=>∃t u v,h.get? a=some { cls:=.type "range", data:=.fields #[.int lo t,.int hi u,.int 1 v] }
 | .frz o u=>h.get? a=some o/\ObjOk H h a u
 | .tbl ps=>h.get? a=some { cls:=.none,data:=.fields ps }
 | .met f x=>h.get? a=some (PySem.W.methodObj (.ref f) (.ref x))
 | .ext φ=>φ h/\(∃o,h.get? a=some o)/\∀h1 h2:Heap,φ h1->(∀o,h1.get? a=some o->h2.get? a=some o)->φ h2
def HOk (H:Hp) (h:Heap):Prop:=∀a o,H a=some o->ObjOk P w H h a o
end
section
variable {P:Program}{w:World}{H H':Hp}{h h':Heap}{a:Addr}{o:HO}
theorem ObjOk.lt (x:ObjOk P w H h a o):a < h.objs.size:=by
 cases o with
 | lst xs=>obtain⟨_,_,_,_,e⟩:=x;exact zM e
 | tup xs=>obtain⟨_,_,_,p⟩:=x;exact p.lt
 | dK kvs=>obtain⟨_,_,_,_,o,_,_,e,_⟩:=x;exact zM e
 | dT kvs=>obtain⟨_,_,_,_,o,_,_,e,_⟩:=x;exact zM e
 | set S n=>obtain⟨o,_,_,_,e,_⟩:=x;exact zM e
 | ins C dx fs=>obtain⟨_,_,_,e,_⟩:=x;exact zM e
 | own y=>obtain⟨_,e⟩:=x;exact zM e
 | xd fs=>obtain⟨_,⟨_,_,_,e,_⟩,_⟩:=x;exact zM e
 | rng lo hi=>obtain⟨_,_,_,e⟩:=x;exact zM e
 | frz ob u=>obtain⟨e,_⟩:=x;exact zM e
 | tbl ps=>exact zM (show h.get? a=some _ from x)
 | met f y=>exact zM (show h.get? a=some _ from x)
 | ext φ=>obtain⟨_,⟨_,e⟩,_⟩:=x;exact zM e
theorem Paired.mapP {α β:Type}{F G:α->β->Prop}:∀{l₁:List α}{l₂:List β},Paired F l₁ l₂->(∀a b,F a b->G a b)->Paired G l₁ l₂
 | _,_,.nil,_=>.nil
 | _,_,.cons r t,f=>.cons (f _ _ r) (Paired.mapP t f)
theorem ObjOk.stay (x:ObjOk P w H h a o) (k:∀b u,(b=a∨H b=some (.own a))->h.get? b=some u->h'.get? b=some u)
   (ho:∀b,H b=some (.own a)->H' b=some (.own a)) (ht:∀b xs,H b=some (.tup xs)->H' b=some (.tup xs)):ObjOk P w H' h' a o:=by
 induction o with
 | lst xs=>obtain⟨z,its,n,r,e⟩:=x;exact⟨z,its,n,r,k _ _ (.inl rfl) e⟩
 | tup xs=>obtain⟨z,its,r,ob,e,c⟩:=x;exact⟨z,its,r,ob,k _ _ (.inl rfl) e,c⟩
 | dK kvs=>obtain⟨z,y,vs,r,ob,es,ep,e,c⟩:=x;exact⟨z,y,vs,r,ob,es,ep,k _ _ (.inl rfl) e,c⟩
 | dT kvs=>
   obtain⟨z,y,xs,r,ob,es,ep,e,c⟩:=x
   exact⟨z,y,xs,Paired.mapP r fun p q z=>⟨z.1,ht _ _ z.2.1,z.2.2⟩,ob,es,ep,k _ _ (.inl rfl) e,c⟩
 | set S n=>obtain⟨ob,es,ep,t,e,c⟩:=x;exact⟨ob,es,ep,t,k _ _ (.inl rfl) e,c⟩
 | ins C dx fs=>
   obtain⟨d,z,ne,e,mA,⟨od,es,ep,e2,c⟩,r⟩:=x
   exact⟨ho _ d,z,ne,k _ _ (.inl rfl) e,mA,⟨od,es,ep,k _ _ (.inr d) e2,c⟩,r⟩
 | own y=>obtain⟨ob,e⟩:=x;exact⟨ob,k _ _ (.inl rfl) e⟩
 | xd fs=>obtain⟨mA,⟨od,es,ep,e,c⟩,r⟩:=x;exact⟨mA,⟨od,es,ep,k _ _ (.inl rfl) e,c⟩,r⟩
 | rng lo hi=>obtain⟨t,u,v,e⟩:=x;exact⟨t,u,v,k _ _ (.inl rfl) e⟩
 | frz ob u ih=>obtain⟨e,q⟩:=x;exact⟨k _ _ (.inl rfl) e,ih q⟩
 | tbl ps=>
   have e:h.get? a=some { cls:=.none,data:=.fields ps }:=x
   show h'.get? a=some { cls:=.none,data:=.fields ps }
   exact k a _ (.inl rfl) e
 | met f y=>
   have e:h.get? a=some (PySem.W.methodObj (.ref f) (.ref y)):=x
   show h'.get? a=some (PySem.W.methodObj (.ref f) (.ref y))
   exact k a _ (.inl rfl) e
 | ext φ=>obtain⟨p,⟨o,e⟩,st⟩:=x;exact⟨st _ _ p fun o q=>k _ _ (.inl rfl) q,⟨o,k _ _ (.inl rfl) e⟩,st⟩
theorem HOk.lt (x:HOk P w H h) (e:H a=some o):a < h.objs.size:=(x a o e).lt
theorem HOk.fresh (x:HOk P w H h) (e:h.objs.size<=a):H a=none:=by
 cases q:H a with
 | none=>rfl
 | some u=>exact absurd (zP (x.lt q) e) (yF _)
theorem HOk.kept (x:HOk P w H h) (k:∀b u,h.get? b=some u->h'.get? b=some u):HOk P w H h':=fun a o e=>
 (x a o e).stay (fun b u _ q=>k b u q) (fun _ q=>q) fun _ _ q=>q
theorem HOk.laid (x:HOk P w H h) (k:∀b u,h.get? b=some u->h'.get? b=some u) (hp:h.objs.size<=a) (new:ObjOk P w (upd H a o) h' a o):HOk P w (upd H a o) h':=fun b u e=>by
 have hn:=x.fresh hp
 by_cases hb:b=a
 · subst hb;rw[AH] at e;cases e;exact new
 · rw[AN hb] at e
   exact(x b u e).stay (fun c v _ q=>k c v q) (fun c q=>by rw[AN (AZ q hn)];exact q) fun c xs q=>by rw[AN (AZ q hn)];exact q
end
def Rd (H:Hp) (a:Addr) (u:HO):Prop:=H a=some u∨∃o,H a=some (.frz o u)
theorem Rd.ok {P:Program}{w:World}{H:Hp}{h:Heap}{a:Addr}{u:HO}(r:Rd H a u) (x:HOk P w H h):ObjOk P w H h a u:=by
 rcases r with r | ⟨o,r⟩
 · exact x a u r
 · obtain⟨_,q⟩:=x a _ r
   exact q
def Mut:Option HO->Prop
 | some (.lst _)=>True
 | some (.dK _)=>True
 | some (.dT _)=>True
 | some (.set _ _)=>True
 | some (.ins _ _ _)=>True
 | some (.ext _)=>True
 | _=>False
section
variable {P:Program}{w:World}{H:Hp}{h h':Heap}{x e:Addr}{o':HO}
theorem HOk.write (ok:HOk P w H h) (mu:Mut (H x)) (he:e=x∨H e=some (.own x)) (k:∀b u,b≠e->h.get? b=some u->h'.get? b=some u) (heo:∃u,h'.get? e=some u)
   (new:ObjOk P w (upd H x o') h' x o'):HOk P w (upd H x o') h':=fun b u q=>by
 have nown:∀c y,H c=some (.own y)->c≠x:=fun c y r z=>by subst z;rw[r] at mu;exact mu
 have ntup:∀c xs,H c=some (.tup xs)->c≠x:=fun c xs r z=>by subst z;rw[r] at mu;exact mu
 by_cases hb:b=x
 · subst hb;rw[AH] at q;cases q;exact new
 · rw[AN hb] at q
   by_cases hbe:b=e
   · have q':H b=some (.own x):=by
       rcases he with z | z
       · exact absurd (hbe.trans z) hb
       · rw[hbe];exact z
     rw[q] at q';cases q'
     obtain⟨v,hv⟩:=heo
     exact⟨v,by rw[hbe];exact hv⟩
   · refine(ok b u q).stay (fun c v hc r=>k c v ?_ r) (fun c r=>by rw[AN (nown c b r)];exact r) fun c xs r=>by rw[AN (ntup c xs r)];exact r
     rcases hc with rfl | hc
     · exact hbe
     · rintro rfl
       rcases he with z | z
       · exact nown c b hc z
       · rw[hc] at z;cases z;exact hb rfl
end
structure Un (fs ex:List Addr) (H H':Hp) (h h':Heap):Prop where
 keep:∀b o,h.get? b=some o->H b=none->b∉fs->b∉ex->h'.get? b=some o
 slot:∀b o,h.get? b=some o->H b=none->b∈fs->b∉ex->∃sl,h'.get? b=some { o with slots:=sl }
 free:∀b o,h.get? b=some o->H b=none->b∉ex->H' b=none
 there:∀b o,h.get? b=some o->b∉ex->∃o',h'.get? b=some o'
 tups:∀b xs,H b=some (.tup xs)->H' b=some (.tup xs)
 frzs:∀b o u,H b=some (.frz o u)->H' b=some (.frz o u)
 tbls:∀b ps,H b=some (.tbl ps)->∃more,H' b=some (.tbl (ps++more))
section
variable {fs fs' ex ex':List Addr}{H H1 H2:Hp}{h h1 h2 h':Heap}{a x e:Addr}{o:HO}
theorem Un.any (u:Un fs ex H H1 h h1) {b:Addr}{ob:Obj}(q:h.get? b=some ob) (n:H b=none) (hx:b∉ex):∃sl,h1.get? b=some { ob with slots:=sl }:=by
 by_cases hb:b∈fs
 · exact u.slot b ob q n hb hx
 · exact⟨ob.slots,u.keep b ob q n hb hx⟩
theorem Un.kept (k:∀b u,h.get? b=some u->h'.get? b=some u):Un fs ex H H h h':=
 ⟨fun b ob q _ _ _=>k b ob q,fun b ob q _ _ _=>⟨ob.slots,k b ob q⟩,fun _ _ _ n _=>n,fun b ob q _=>⟨ob,k b ob q⟩,fun _ _ q=>q,fun _ _ _ q=>q,fun _ ps q=>⟨#[],by rw[q];simp⟩⟩
theorem Un.refl:Un fs ex H H h h:=Un.kept fun _ _ q=>q
theorem Un.laid (k:∀b u,h.get? b=some u->h'.get? b=some u) (hp:h.objs.size<=a) (hn:H a=none):Un fs ex H (upd H a o) h h' where
 keep:=fun b u q _ _ _=>k b u q
 slot:=fun b u q _ _ _=>⟨u.slots,k b u q⟩
 free:=fun b u q n _=>by rw[AN (zC (zP (zM q) hp))];exact n
 there:=fun b u q _=>⟨u,k b u q⟩
 tups:=fun b xs q=>by rw[AN (AZ q hn)];exact q
 frzs:=fun b u xs q=>by rw[AN (AZ q hn)];exact q
 tbls:=fun b ps q=>⟨#[],by rw[AN (AZ q hn),q];simp⟩
theorem Un.write (mu:Mut (H x)) (he:e=x∨H e=some (.own x)) (k:∀b u,b≠e->h.get? b=some u->h'.get? b=some u) (heo:∃u,h'.get? e=some u):Un fs ex H (upd H x o) h h':=by
 have hx:∀b,H b=none->b≠x:=fun b n z=>by subst z;rw[n] at mu;exact mu
 have hb:∀b,H b=none->b≠e:=fun b n z=>by
   subst z
   rcases he with r | r
   · exact hx b n r
   · rw[n] at r;cases r
 have hm:∀b u,H b=some u->¬Mut (some u)->b≠x:=fun b u q nm z=>by subst z;rw[q] at mu;exact nm mu
 refine⟨fun b u q n _ _=>k b u (hb b n) q,fun b u q n _ _=>⟨u.slots,k b u (hb b n) q⟩,fun b u q n _=>by rw[AN (hx b n)];exact n,fun b u q _=>?_,
   fun b xs q=>by rw[AN (hm b _ q fun z=>z)];exact q,fun b u xs q=>by rw[AN (hm b _ q fun z=>z)];exact q,fun b ps q=>⟨#[],by rw[AN (hm b _ q fun z=>z),q];simp⟩⟩
 by_cases hbe:b=e
 · subst hbe;exact heo
 · exact⟨u,k b u hbe q⟩
end
def trk (h:Heap) (H:Hp):List Addr:=(a3Z h.objs.size).filter fun a=>(H a).isSome
def VA (h:Heap) (H:Hp):Heap:=PySem.W.hideAll h (trk h H)
theorem fW (h:Heap) (H:Hp):(VA h H).objs.size=h.objs.size:=PySem.W.hideAll_size _ _
theorem iY {h:Heap}{H:Hp}{b:Addr}{o:Obj}(e:h.get? b=some o) (n:H b=none):(VA h H).get? b=some o:=
 PySem.W.hideAll_get _ e fun hm=>by
   have q:(H b).isSome=true:=(yL.mp hm).2
   rw[n] at q;simp at q
theorem nT {h:Heap}{H:Hp}{b:Addr}{o:Obj}(e:(VA h H).get? b=some o):h.get? b=some o/\H b=none:=by
 have e':h.get? b=some o:=PySem.W.of_hideAll (trk h H) e
 refine⟨e',?_⟩
 cases q:H b with
 | none=>rfl
 | some x=>
   have hm:b∈trk h H:=yL.mpr ⟨List.mem_range.mpr (zM e'),by simp[q]⟩
   have z:(VA h H).get? b=none:=PySem.W.hideAll_none (trk h H) hm
   rw[z] at e;cases e
structure Mod (K:Frg) (mg:Str->Option Value) (base:Heap):Prop where
 kin:K.In base
 glob:base.Ns mainGlobals mg
 blt:∃mb,base.Ns builtinsNs mb/\∀x:Str,x ≠ "__name__" -> mb x=bootBuiltins x
 nolimit:base.NoLimit
structure Cx where
 prog:Program
 w:World
 K:Frg
 mg:Str->Option Value
 base:Heap
 A:Around
 N:List Str
 s₀:Shared
 H₀:Hp
 env:Env
 outer:List Env
 stack:List Env
 ex:List Addr
 fn:Str->Bool
 calm:Bool
 pn:List (Addr×Obj)
 xe:Value->Shared->Prop
def frs (l:List Env):List Addr:=l.filterMap (·.frame)
abbrev Cx.fs (X:Cx):List Addr:=frs X.outer
def Vis (sc:Scope) (x:Str):Prop:=sc.names.lookup x=some .local∨sc.names.lookup x=some .cell∨sc.names.lookup x=some .free
def Loc (sc:Scope) (x:Str):Prop:=sc.names.lookup x=some .local∨sc.names.lookup x=some .cell
def A0w (env:Env) (h:Heap) (m:Str->Option Value) (x:Str) (u:Value):Prop:=
 (env.kindOf x=some .local/\m x=some u)∨((env.kindOf x=some .cell∨env.kindOf x=some .free)/\∃c,env.cells.lookup x=some c/\h.IsCell c (some u))
structure Cx.Ok (X:Cx):Prop where
 mod:Mod X.K X.mg X.base
 kind:X.env.scope.kind = .function
 glob:X.env.globals=mainGlobals
 blt:X.env.builtins=builtinsNs
 above:X.s₀.heap.objs.size<=X.env.locals
 inj:∀x y c,X.env.cells.lookup x=some c->X.env.cells.lookup y=some c->x=y
 has:∀x,(X.env.kindOf x=some .cell∨X.env.kindOf x=some .free)->∃c,X.env.cells.lookup x=some c
 cab:∀x c,X.fn x=true->X.env.cells.lookup x=some c->X.s₀.heap.objs.size<=c
 hd:X.calm=true->X.A.handled=none
 frames:X.A.frames=some X.stack
 stk:X.stack=X.outer∨(X.stack=X.env::X.outer/\X.env.frame=some X.env.locals)
 exf:∀b∈X.ex,b≠X.env.locals/\∀x c,X.env.cells.lookup x=some c->c≠b
 bs:∀b o,X.base.get? b=some o->X.s₀.heap.get? b=some o/\X.H₀ b=none
 bsz:X.base.objs.size<=X.s₀.heap.objs.size
 noex:∀b o,X.base.get? b=some o->b∉X.ex
 exfs:∀b∈X.ex,b∉X.fs
 funs:X.s₀.heap.FunFrames X.base X.outer
 frf:∀b∈X.fs,X.H₀ b=none
structure Inv (X:Cx) (pins:List (Addr×Obj)) (σ:List (Option V)) (H:Hp) (s:Shared):Prop where
 ok:X.Ok
 os:s.os=X.s₀.os
 bare:AllBare s.gens
 base:Un X.fs X.ex X.H₀ H X.s₀.heap s.heap
 loc:∃m,s.heap.Ns X.env.locals m/\∀(i:Nat) (x:Str) (v:V),X.N[i]?=some x->σ[i]?=some (some v)->Vis X.env.scope x->∃u,RelV v u/\A0w X.env s.heap m x u
 cell:∀x c,X.env.cells.lookup x=some c->∃v,s.heap.IsCell c v
 free:H X.env.locals=none
 freeC:∀x c,X.env.cells.lookup x=some c->H c=none
 pin:∀p∈X.pn++pins,s.heap.get? p.1=some p.2/\H p.1=none/\p.1≠X.env.locals/\p.1∉X.fs/\∀v,p.2.data≠.cell v
 hok:HOk X.prog X.w H s.heap
 len:σ.length=X.N.length
section
variable {X:Cx}{pins:List (Addr×Obj)}{σ:List (Option V)}{H H':Hp}{s:Shared}{h':Heap}
theorem Cx.Ok.nofr (ok:X.Ok) {b:Addr}{o:Obj}(e:X.base.get? b=some o):b∉X.fs:=fun hb=>by
 have:=(ok.funs.mem hb).1
 rw[e] at this;cases this
theorem Inv.bs (I:Inv X pins σ H s):∀b o,X.base.get? b=some o->s.heap.get? b=some o/\H b=none:=fun b o e=>
 ⟨I.base.keep b o (I.ok.bs b o e).1 (I.ok.bs b o e).2 (I.ok.nofr e) (I.ok.noex b o e),I.base.free b o (I.ok.bs b o e).1 (I.ok.bs b o e).2 (I.ok.noex b o e)⟩
theorem Inv.bk (I:Inv X pins σ H s):∀b o,X.base.get? b=some o->s.heap.get? b=some o:=fun b o e=>(I.bs b o e).1
theorem Inv.mod (I:Inv X pins σ H s):Mod X.K X.mg X.base:=I.ok.mod
theorem Inv.kIn (I:Inv X pins σ H s):X.K.In s.heap:=I.ok.mod.kin.keeps I.bk
theorem Inv.lt (I:Inv X pins σ H s):X.env.locals < s.heap.objs.size:=let ⟨_,hn,_⟩:=I.loc;hn.lt
theorem Inv.sz (I:Inv X pins σ H s):X.s₀.heap.objs.size<=s.heap.objs.size:=zN I.ok.above (xR I.lt)
theorem Inv.nofs (I:Inv X pins σ H s) {a:Addr}(h:s.heap.objs.size<=a):a∉X.fs:=fun hb=>by
 obtain⟨_,o,ho,_⟩:=I.ok.funs.mem hb
 exact absurd (zP (zM ho) (zN I.sz h)) (yF _)
theorem Inv.cne (I:Inv X pins σ H s):∀x c,X.env.cells.lookup x=some c->c≠X.env.locals:=fun x c e z=>by
 obtain⟨v,o,ho,hd⟩:=I.cell x c e
 obtain⟨m,⟨o',es,ep,ho',hd',_⟩,_⟩:=I.loc
 rw[z,ho'] at ho;cases ho;rw[hd'] at hd;cases hd
theorem Inv.funs (I:Inv X pins σ H s):s.heap.FunFrames X.base X.outer:=by
 have all:∀(l:List Env),(∀b∈frs l,b∈X.fs)->X.s₀.heap.FunFrames X.base l->s.heap.FunFrames X.base l:=by
   intro l
   induction l with
   | nil=>intro _ _;trivial
   | cons env r ih=>
     intro hs hl
     obtain⟨hk,⟨L,o,hf,hn,ho,hd⟩,hr⟩:=hl
     have hL:L∈X.fs:=hs L (by unfold frs;rw[b0W,hf];exact a1J)
     obtain⟨sl,e⟩:=I.base.slot L o ho (I.ok.frf L hL) hL fun z=>I.ok.exfs L z hL
     exact⟨hk,⟨L,_,hf,hn,e,hd⟩,ih (fun b hb=>hs b (by unfold frs;rw[b0W,hf];exact yV _ hb)) hr⟩
 exact all X.outer (fun _ hb=>hb) I.ok.funs
theorem Inv.stack (I:Inv X pins σ H s):s.heap.FunFrames X.base X.stack:=by
 rcases I.ok.stk with e | ⟨e,hf⟩
 · rw[e];exact I.funs
 · rw[e]
   obtain⟨m,hn,_⟩:=I.loc
   refine .cons (by rw[I.ok.kind];decide) hf hn ?_ I.funs
   exact Heap.get?_none_of_le (zN I.ok.bsz I.ok.above)
theorem Inv.stkSub (I:Inv X pins σ H s):∀b∈frs X.stack,b∈X.env.locals::X.fs:=fun b hb=>by
 rcases I.ok.stk with e | ⟨e,hf⟩
 · rw[e] at hb;exact yV _ hb
 · rw[e] at hb
   unfold frs at hb
   rw[b0W,hf] at hb
   exact hb
theorem Inv.stkFree (I:Inv X pins σ H s):∀b∈frs X.stack,H b=none:=fun b hb=>by
 rcases yX.mp (I.stkSub b hb) with e | hb
 · rw[e];exact I.free
 · obtain⟨_,o,ho,_⟩:=I.ok.funs.mem hb
   exact I.base.free b o ho (I.ok.frf b hb) fun z=>I.ok.exfs b z hb
theorem Inv.step {g':Array GenState}{t':Nat}{d':Drawn}{ch:List Addr}(I:Inv X pins σ H s)
   (hch:∀b∈ch,(b∈X.ex∨X.s₀.heap.objs.size<=b)/\b≠X.env.locals/\(∀x c,X.env.cells.lookup x=some c->c≠b)/\∀p∈X.pn++pins,p.1≠b)
   (keep:∀b o,b≠X.env.locals->b∉X.fs->b∉ch->s.heap.get? b=some o->H b=none->h'.get? b=some o)
   (slot:∀b o,b≠X.env.locals->b∈X.fs->b∉ch->s.heap.get? b=some o->H b=none->∃sl,h'.get? b=some { o with slots:=sl }) (free:∀b o,b∉ch->s.heap.get? b=some o->H b=none->H' b=none)
   (there:∀b o,b∉ch->s.heap.get? b=some o->∃o',h'.get? b=some o')
   (tups:∀b xs,H b=some (.tup xs)->H' b=some (.tup xs)) (frzs:∀b o u,H b=some (.frz o u)->H' b=some (.frz o u)) (tbls:∀b ps,H b=some (.tbl ps)->∃more,H' b=some (.tbl (ps++more)))
   (ns:∀m,s.heap.Ns X.env.locals m->h'.Ns X.env.locals m) (hok:HOk X.prog X.w H' h') (hg:AllBare g') :
   Inv X pins σ H' { s with heap:=h',gens:=g',drawn:=d',toks:=t' }:=by
 have neL:∀b o,X.s₀.heap.get? b=some o->b≠X.env.locals:=fun b o e=>zC (zP (zM e) I.ok.above)
 have neC:∀b o,X.s₀.heap.get? b=some o->b∉X.ex->b∉ch:=fun b o e hx hb=>by
   rcases (hch b hb).1 with z | z
   · exact hx z
   · exact absurd (zP (zM e) z) (yF _)
 have cellK:∀x c,X.env.cells.lookup x=some c->∀v,s.heap.IsCell c v->h'.IsCell c v:=fun x c e v ⟨o,ho,hd⟩=>by
   have nch:c∉ch:=fun z=>(hch c z).2.2.1 x c e rfl
   by_cases hc:c∈X.fs
   · obtain⟨sl,q⟩:=slot c o (I.cne x c e) hc nch ho (I.freeC x c e)
     exact⟨_,q,hd⟩
   · exact⟨o,keep c o (I.cne x c e) hc nch ho (I.freeC x c e),hd⟩
 refine⟨I.ok,I.os,hg,⟨fun b o e n hb hx=>?_,fun b o e n hb hx=>?_,fun b o e n hx=>?_,fun b o e hx=>?_,fun b xs e=>tups b xs (I.base.tups b xs e),fun b o xs e=>frzs b o xs (I.base.frzs b o xs e),fun b ps e=>?_⟩,?_,fun x c e=>?_,?_,fun x c e=>?_,fun p hp=>?_,hok,I.len⟩
 · exact keep b o (neL b o e) hb (neC b o e hx) (I.base.keep b o e n hb hx) (I.base.free b o e n hx)
 · obtain⟨sl,e1⟩:=I.base.slot b o e n hb hx
   obtain⟨sl',e2⟩:=slot b _ (neL b o e) hb (neC b o e hx) e1 (I.base.free b o e n hx)
   exact⟨sl',e2⟩
 · obtain⟨o',e1⟩:=I.base.there b o e hx
   exact free b o' (neC b o e hx) e1 (I.base.free b o e n hx)
 · obtain⟨o',e1⟩:=I.base.there b o e hx
   exact there b o' (neC b o e hx) e1
 · obtain⟨m1,e1⟩:=I.base.tbls b ps e
   obtain⟨m2,e2⟩:=tbls b _ e1
   exact⟨m1++m2,by rw[e2,Array.append_assoc]⟩
 · obtain⟨m,hn,hl⟩:=I.loc
   refine⟨m,ns m hn,fun i x v e1 e2 e3=>?_⟩
   obtain⟨u,r,l⟩:=hl i x v e1 e2 e3
   refine⟨u,r,?_⟩
   rcases l with l | ⟨k,c,e,z⟩
   · exact .inl l
   · exact .inr ⟨k,c,e,cellK x c e _ z⟩
 · obtain⟨v,z⟩:=I.cell x c e
   exact⟨v,cellK x c e v z⟩
 · obtain⟨m,⟨o,_,_,ho,_⟩,_⟩:=I.loc
   exact free _ o (fun z=>(hch _ z).2.1 rfl) ho I.free
 · obtain⟨v,o,ho,hd⟩:=I.cell x c e
   exact free c o (fun z=>(hch c z).2.2.1 x c e rfl) ho (I.freeC x c e)
 · obtain⟨e,n,ne,nf,d⟩:=I.pin p hp
   have nch:p.1∉ch:=fun z=>(hch p.1 z).2.2.2 p hp rfl
   exact⟨keep p.1 p.2 ne nf nch e n,free p.1 p.2 nch e n,ne,nf,d⟩
theorem Inv.un {t':Nat}(I:Inv X pins σ H s) (u:Un X.fs [] H H' s.heap h') (hok:HOk X.prog X.w H' h'):Inv X pins σ H' { s with heap:=h',toks:=t' }:=by
 obtain⟨m,⟨o,es,ep,ho,r⟩,_⟩:=id I.loc
 obtain⟨sl,hL⟩:=u.any ho I.free (by simp)
 exact I.step (g':=s.gens) (d':=s.drawn) (ch:=[]) (fun _ z=>nomatch z) (fun b o _ hb _ e n=>u.keep b o e n hb (by simp)) (fun b o _ hb _ e n=>u.slot b o e n hb (by simp)) (fun b o _ e n=>u.free b o e n (by simp)) (fun b o _ e=>u.there b o e (by simp)) u.tups u.frzs u.tbls (fun m' hm=>by
   obtain⟨o',es',ep',ho',r'⟩:=hm
   rw[ho] at ho';cases ho'
   exact⟨_,es',ep',hL,r'⟩) hok I.bare
theorem Inv.call {g':Array GenState}{t':Nat}{d':Drawn}{ch:List Addr}(I:Inv X pins σ H s) (u:Un (frs X.stack) ch H H' s.heap h') (hok:HOk X.prog X.w H' h') (hg:AllBare g')
   (hch:∀b∈ch,(b∈X.ex∨X.s₀.heap.objs.size<=b)/\b≠X.env.locals/\(∀x c,X.env.cells.lookup x=some c->c≠b)/\∀p∈X.pn++pins,p.1≠b) :
   Inv X pins σ H' { s with heap:=h',gens:=g',drawn:=d',toks:=t' }:=by
 obtain⟨m,⟨o,es,ep,ho,r⟩,_⟩:=id I.loc
 obtain⟨sl,hL⟩:=u.any ho I.free fun z=>(hch _ z).2.1 rfl
 exact I.step (ch:=ch) hch (fun b o hL hb hc e n=>u.keep b o e n (fun z=>(yX.mp (I.stkSub b z)).elim hL hb) hc) (fun b o _ _ hc e n=>u.any e n hc) (fun b o hc e n=>u.free b o e n hc) (fun b o hc e=>u.there b o e hc) u.tups u.frzs u.tbls (fun m' hm=>by
   obtain⟨o',es',ep',ho',r'⟩:=hm
   rw[ho] at ho';cases ho'
   exact⟨_,es',ep',hL,r'⟩) hok hg
theorem Inv.turned {t':Nat}{it:Addr}(I:Inv X pins σ H s) (k:∀b o,b≠it->s.heap.get? b=some o->h'.get? b=some o) (hn:H it=none) (hL:it≠X.env.locals)
   (h1:it∈X.ex∨X.s₀.heap.objs.size<=it) (h2:∀x c,X.env.cells.lookup x=some c->c≠it) (h3:∀p∈X.pn++pins,p.1≠it):Inv X pins σ H { s with heap:=h',toks:=t' }:=by
 have nit:∀b u,H b=some u->b≠it:=fun b u e z=>by rw[z,hn] at e;cases e
 refine I.step (g':=s.gens) (d':=s.drawn) (ch:=[it]) (fun b hb=>?_) (fun b o _ _ hc e _=>k b o (fun z=>hc (by simp[z])) e) (fun b o _ _ hc e _=>⟨o.slots,k b o (fun z=>hc (by simp[z])) e⟩) (fun _ _ _ _ n=>n)
   (fun b o hc e=>⟨o,k b o (fun z=>hc (by simp[z])) e⟩) (fun _ _ e=>e) (fun _ _ _ e=>e) (fun b ps e=>⟨#[],by rw[e];simp⟩) (fun m hm=>?_) (fun b u e=>?_) I.bare
 · have e:b=it:=by simpa using hb
   subst e
   exact⟨h1,hL,h2,h3⟩
 · obtain⟨o,es,ep,ho,r⟩:=hm
   exact⟨o,es,ep,k _ o (b5Q hL) ho,r⟩
 · refine(I.hok b u e).stay (fun c v hc q=>k c v ?_ q) (fun _ q=>q) fun _ _ q=>q
   rcases hc with z | z
   · rw[z];exact nit b u e
   · exact nit c _ z
theorem Inv.tok (I:Inv X pins σ H s) (t:Nat):Inv X pins σ H { s with toks:=t }:=I.un (h':=s.heap) (t':=t) Un.refl I.hok
theorem Inv.kept {t':Nat}(I:Inv X pins σ H s) (k:∀b u,s.heap.get? b=some u->h'.get? b=some u):Inv X pins σ H { s with heap:=h',toks:=t' }:=I.un (Un.kept k) (I.hok.kept k)
theorem Inv.laid {a:Addr}{o:HO}{t':Nat}(I:Inv X pins σ H s) (k:∀b u,s.heap.get? b=some u->h'.get? b=some u) (hp:s.heap.objs.size<=a) (new:ObjOk X.prog X.w (upd H a o) h' a o) :
   Inv X pins σ (upd H a o) { s with heap:=h',toks:=t' }:=I.un (Un.laid k hp (I.hok.fresh hp)) (I.hok.laid k hp new)
theorem Inv.write {x e:Addr}{o:HO}{t':Nat}(I:Inv X pins σ H s) (mu:Mut (H x)) (he:e=x∨H e=some (.own x)) (k:∀b u,b≠e->s.heap.get? b=some u->h'.get? b=some u) (heo:∃u,h'.get? e=some u)
   (new:ObjOk X.prog X.w (upd H x o) h' x o):Inv X pins σ (upd H x o) { s with heap:=h',toks:=t' }:=I.un (Un.write mu he k heo) (I.hok.write mu he k heo new)
theorem Inv.weak {σ':List (Option V)}(I:Inv X pins σ H s) (hl:σ'.length=σ.length) (w:∀(i:Nat) v,σ'[i]?=some (some v)->σ[i]?=some (some v)):Inv X pins σ' H s:=
 ⟨I.ok,I.os,I.bare,I.base,let ⟨m,hn,hl'⟩:=I.loc;⟨m,hn,fun i x v e1 e2 e3=>hl' i x v e1 (w i v e2) e3⟩,I.cell,I.free,I.freeC,I.pin,I.hok,hl.trans I.len⟩
theorem Inv.pins_of {pins':List (Addr×Obj)}(I:Inv X pins σ H s) (h:∀p∈pins',s.heap.get? p.1=some p.2/\H p.1=none/\p.1≠X.env.locals/\p.1∉X.fs/\∀v,p.2.data≠.cell v):Inv X pins' σ H s:=
 ⟨I.ok,I.os,I.bare,I.base,I.loc,I.cell,I.free,I.freeC,fun p hp=>(yW.mp hp).elim (fun z=>I.pin p (List.mem_append_left _ z)) (h p),I.hok,I.len⟩
theorem XF {N:List Str}(hN:N.Nodup) {i j:Nat}{x:Str}(a:N[i]?=some x) (b:N[j]?=some x):i=j:=by
 obtain⟨h1,e1⟩:=yT.mp a
 obtain⟨h2,e2⟩:=yT.mp b
 exact(List.getElem_inj hN).mp (e1.trans e2.symm)
theorem fX {M:Model}{A:Around}{E:Value->Shared->Prop}{i:Nat}{x:Str}{v:V}{u:Value}{Q:Unit->Shared->Prop}(I:Inv X pins σ H s) (hN:X.N.Nodup) (hi:X.N[i]?=some x) (hx:Loc X.env.scope x) (r:RelV v u)
   (h:∀s',Inv X pins (σ.set i (some v)) H s'->(∃a,Heap.SameBut a s.heap s'.heap/\(a=X.env.locals∨X.env.cells.lookup x=some a))->Q () s') (hf:X.fn x=true∨X.env.scope.names.lookup x=some .local:=by first | exact .inl rfl | exact .inr rfl | assumption):wpAny M A (storeName X.env x u) Q E s:=by
 obtain⟨m,hn,hl⟩:=id I.loc
 have hcls:(X.env.scope.kind==.class||(X.env.scope.kind==.module&&X.env.locals != X.env.globals))=false:=by rw[I.ok.kind];rfl
 have hiσ:i < σ.length:=by rw[I.len];exact(yT.mp hi).1
 have cne:=I.cne
 have tracked:∀{a:Addr}{h':Heap},(∃o,s.heap.get? a=some o/\H a=none)->Heap.SameBut a s.heap h'->HOk X.prog X.w H h':=fun {a h'} ha hs b ob e=>by
   obtain⟨_,_,hfree⟩:=ha
   refine(I.hok b ob e).stay (fun c w' hc q=>(hs.2 c ?_).trans q) (fun _ q=>q) fun _ _ q=>q
   rintro rfl
   rcases hc with rfl | hc
   · rw[hfree] at e;cases e
   · rw[hfree] at hc;cases hc
 rcases hx with hk | hk
 · refine wpAny_storeName_local hk hn (fun h' hn' hs=>?_) hcls
   obtain⟨oL,_,_,hoL,_⟩:=id hn
   refine h _ ⟨I.ok,I.os,I.bare,⟨fun b o e n hb hx=>?_,fun b o e n hb hx=>?_,I.base.free,fun b o e hx=>?_,I.base.tups,I.base.frzs,I.base.tbls⟩,⟨_,hn',fun j y v' e1 e2 e3=>?_⟩,fun y c e=>?_,I.free,I.freeC,fun p hp=>?_,tracked ⟨oL,hoL,I.free⟩ hs,by simpa using I.len⟩ ⟨_,hs,.inl rfl⟩
   · exact(hs.2 b (zC (zP (zM e) I.ok.above))).trans (I.base.keep b o e n hb hx)
   · obtain⟨sl,e1⟩:=I.base.slot b o e n hb hx
     exact⟨sl,(hs.2 b (zC (zP (zM e) I.ok.above))).trans e1⟩
   · obtain⟨o',e1⟩:=I.base.there b o e hx
     exact⟨o',(hs.2 b (zC (zP (zM e) I.ok.above))).trans e1⟩
   · by_cases hj:j=i
     · subst hj
       rw[hi] at e1;cases e1
       rw[List.getElem?_set_self hiσ] at e2
       cases e2
       exact⟨u,r,.inl ⟨hk,by simp⟩⟩
     · rw[b7V (b5Q hj)] at e2
       obtain⟨u',r',q⟩:=hl j y v' e1 e2 e3
       refine⟨u',r',?_⟩
       rcases q with ⟨k,e⟩ | ⟨k,c,e,z⟩
       · refine .inl ⟨k,?_⟩
         have:y≠x:=fun e=>hj (XF hN e1 (e▸hi))
         simp[this,e]
       · exact .inr ⟨k,c,e,z.sameBut hs (cne y c e)⟩
   · obtain⟨w',z⟩:=I.cell y c e
     exact⟨w',z.sameBut hs (cne y c e)⟩
   · obtain⟨e,n,ne,nf,d⟩:=I.pin p hp
     exact⟨(hs.2 p.1 ne).trans e,n,ne,nf,d⟩
 · have hfn:X.fn x=true:=by
     rcases hf with z | z
     · exact z
     · rw[z] at hk;cases hk
   obtain⟨c,hc⟩:=I.ok.has x (.inl hk)
   obtain⟨w',z⟩:=I.cell x c hc
   refine wpAny_storeName_cell I.ok.kind hk hc z (fun h' hc' hs=>?_)
   obtain⟨oc,hoc,hocd⟩:=id z
   refine h { s with heap:=h' } ⟨I.ok,I.os,I.bare,⟨fun b o e n hb hx=>?_,fun b o e n hb hx=>?_,I.base.free,fun b o e hx=>?_,I.base.tups,I.base.frzs,I.base.tbls⟩,⟨m,hn.sameBut hs (b5Q (cne x c hc)),fun j y v' e1 e2 e3=>?_⟩,fun y c' e=>?_,I.free,I.freeC,fun p hp=>?_,tracked ⟨oc,hoc,I.freeC x c hc⟩ hs,by simpa using I.len⟩ ⟨c,hs,.inr hc⟩
   · exact(hs.2 b (zC (zP (zM e) (I.ok.cab x c hfn hc)))).trans (I.base.keep b o e n hb hx)
   · obtain⟨sl,e1⟩:=I.base.slot b o e n hb hx
     exact⟨sl,(hs.2 b (zC (zP (zM e) (I.ok.cab x c hfn hc)))).trans e1⟩
   · obtain⟨o',e1⟩:=I.base.there b o e hx
     exact⟨o',(hs.2 b (zC (zP (zM e) (I.ok.cab x c hfn hc)))).trans e1⟩
   · by_cases hj:j=i
     · subst hj
       rw[hi] at e1;cases e1
       rw[List.getElem?_set_self hiσ] at e2
       cases e2
       exact⟨u,r,.inr ⟨.inl hk,c,hc,hc'⟩⟩
     · rw[b7V (b5Q hj)] at e2
       obtain⟨u',r',q⟩:=hl j y v' e1 e2 e3
       refine⟨u',r',?_⟩
       rcases q with q | ⟨k,c',e,z'⟩
       · exact .inl q
       · refine .inr ⟨k,c',e,z'.sameBut hs ?_⟩
         rintro rfl
         exact hj (XF hN e1 (I.ok.inj _ _ _ e hc▸hi))
   · by_cases hcc:c'=c
     · subst hcc;exact⟨_,hc'⟩
     · obtain⟨w2,z2⟩:=I.cell y c' e
       exact⟨w2,z2.sameBut hs hcc⟩
   · obtain⟨e,n,ne,nf,d⟩:=I.pin p hp
     refine⟨(hs.2 p.1 ?_).trans e,n,ne,nf,d⟩
     intro q
     rw[q,hoc] at e
     have q':oc=p.2:=Option.some.inj e
     exact d w' (by rw[← q'];exact hocd)
theorem MB {M:Model}{A:Around}{E:Value->Shared->Prop}{i:Nat}{x:Str}{v:V}{u:Value}{Q:Unit->Shared->Prop}(I:Inv X pins σ H s) (hN:X.N.Nodup) (hi:X.N[i]?=some x) (hx:Loc X.env.scope x) (r:RelV v u)
   (h:∀s',Inv X pins (σ.set i (some v)) H s'->Q () s') (hf:X.fn x=true∨X.env.scope.names.lookup x=some .local:=by first | exact .inl rfl | exact .inr rfl | assumption):wpAny M A (storeName X.env x u) Q E s:=
 fX I hN hi hx r (fun s' I' _=>h s' I') hf
theorem Inv.call' {s':Shared}{ch:List Addr}(I:Inv X pins σ H s) (ho:s'.os=s.os) (u:Un (frs X.stack) ch H H' s.heap s'.heap) (hok:HOk X.prog X.w H' s'.heap) (hg:AllBare s'.gens)
   (hch:∀b∈ch,(b∈X.ex∨X.s₀.heap.objs.size<=b)/\b≠X.env.locals/\(∀x c,X.env.cells.lookup x=some c->c≠b)/\∀p∈X.pn++pins,p.1≠b):Inv X pins σ H' s':=by
 obtain⟨h',g',d',t',o'⟩:=s'
 have e:o'=s.os:=ho
 subst e
 exact I.call (g':=g') (t':=t') (d':=d') u hok hg hch
end
abbrev XK:=Value->Option Addr->Hp->Prop
abbrev St:=List (Option V)
abbrev VK:=V->Hp->Prop
abbrev TE:=St->Hp->VK->Prop
abbrev TT:=St->Hp->(Bool->Hp->Prop)->Prop
abbrev TA:=St->Hp->(List V->Hp->Prop)->Prop
structure Ends where
 nx:St->Hp->Prop
 rt:VK
 bk:St->Hp->Prop:=fun _ _=>False
 ct:St->Hp->Prop:=fun _ _=>False
abbrev TS:=Ends->St->Hp->Prop
def EP (X:Cx) (pins:List (Addr×Obj)) (σ:St) (Q:VK) (u:Value) (s':Shared):Prop:=∃v H',Inv X pins σ H' s'/\RelV v u/\Q v H'
def TP (X:Cx) (pins:List (Addr×Obj)) (σ:St) (Q:Bool->Hp->Prop) (b:Bool) (s':Shared):Prop:=∃H',Inv X pins σ H' s'/\Q b H'
def AP (X:Cx) (pins:List (Addr×Obj)) (σ:St) (Q:List V->Hp->Prop) (us:List Value) (s':Shared):Prop:=∃vs H',Inv X pins σ H' s'/\Vals vs us/\Q vs H'
def SP (X:Cx) (pins:List (Addr×Obj)) (D:Ends) (f:Flow) (s':Shared):Prop:=
 match f with
 | .next=>∃σ' H',Inv X pins σ' H' s'/\D.nx σ' H'
 | .brk=>∃σ' H',Inv X pins σ' H' s'/\D.bk σ' H'
 | .cont=>∃σ' H',Inv X pins σ' H' s'/\D.ct σ' H'
 | .ret u=>∃v σ' H',Inv X pins σ' H' s'/\RelV v u/\D.rt v H'
def PE (X:Cx) (e:Expr) (t:TE):Prop:=
 ∀(pins:List (Addr×Obj)) (s:Shared) (σ:St) (H:Hp) (Q:VK),Inv X pins σ H s->t σ H Q->wpAny (model X.prog X.w) X.A (eval e X.env) (EP X pins σ Q) X.xe s
def PT (X:Cx) (e:Expr) (t:TT):Prop:=
 ∀(pins:List (Addr×Obj)) (s:Shared) (σ:St) (H:Hp) (Q:Bool->Hp->Prop),Inv X pins σ H s->t σ H Q->wpAny (model X.prog X.w) X.A (isTrue e X.env (eval e X.env)) (TP X pins σ Q) X.xe s
def PW (X:Cx) (e:Expr) (t:TT):Prop:=
 ∀(whole:Sem Value) (pins:List (Addr×Obj)) (s:Shared) (σ:St) (H:Hp) (Q:Bool->Hp->Prop),Inv X pins σ H s->t σ H Q->wpAny (model X.prog X.w) X.A (isTrue e X.env whole) (TP X pins σ Q) X.xe s
theorem PW.pt {X:Cx}{e:Expr}{t:TT}(h:PW X e t):PT X e t:=h _
def PA (X:Cx) (es:List Expr) (t:TA):Prop:=
 ∀(pos:Pos) (pins:List (Addr×Obj)) (s:Shared) (σ:St) (H:Hp) (Q:List V->Hp->Prop),Inv X pins σ H s->t σ H Q->wpAny (model X.prog X.w) X.A (spliced (backTo pos (starEach es X.env))) (AP X pins σ Q) X.xe s
def PS (X:Cx) (st:Stmt) (t:TS):Prop:=
 ∀(pins:List (Addr×Obj)) (s:Shared) (σ:St) (H:Hp) (D:Ends),Inv X pins σ H s->t D σ H->wpAny (model X.prog X.w) X.A (exec st X.env) (SP X pins D) X.xe s
def PSs (X:Cx) (st:List Stmt) (t:TS):Prop:=
 ∀(pins:List (Addr×Obj)) (s:Shared) (σ:St) (H:Hp) (D:Ends),Inv X pins σ H s->t D σ H->wpAny (model X.prog X.w) X.A (execs st X.env) (SP X pins D) X.xe s
theorem thn {α:Type}{t:Sem α}{Q Q':α->Shared->Prop}{M:Model}{A:Around}{E:Value->Shared->Prop}{s:Shared}(h:wpAny M A t Q E s) (hQ:∀a s,Q a s->Q' a s):wpAny M A t Q' E s:=wpAny_mono h hQ fun _ _ x=>x
section
variable {X:Cx}
def nU (i:Nat):TE:=fun σ H Q=>∃v,σ[i]?=some (some v)/\Q v H
def tC (v:V):TE:=fun _ H Q=>Q v H
theorem iZ {i:Nat}{x:Str}{pos:Pos}(hN:X.N[i]?=some x) (hv:Vis X.env.scope x) (hd:(x==("__debug__":Str))=false:=by decide) (hcd:(x==("__classdict__":Str))=false:=by decide):PE X (.Name x pos) (nU i):=by
 intro pins s σ H Q I h
 obtain⟨v,e,h⟩:=h
 obtain⟨m,hn,hl⟩:=I.loc
 obtain⟨u,r,l⟩:=hl i x v hN e hv
 have fin:EP X pins σ Q u s:=⟨v,H,I,r,h⟩
 rcases l with ⟨hk,hm⟩ | ⟨hk,c,hc,hcell⟩
 · exact wpAny_Name (wpAny_loadName_local I.ok.kind hk hn hm fin) hd
 · rcases hk with hk | hk
   · exact wpAny_Name (wpAny_loadName_cell I.ok.kind hk hc hcell fin) hd
   · exact wpAny_Name (wpAny_loadName_free I.ok.kind hk hc hcell fin hcd) hd
theorem NR {i j pos}:PE X (.Constant (.int i) j pos) (tC (.int i)):=fun _ _ _ H _ I h=>wpAny_Constant_int ⟨.int i,H,I.tok _,⟨_,rfl⟩,h⟩
theorem rS {b j pos}:PE X (.Constant (.bool b) j pos) (tC (.bl b)):=fun _ _ _ H _ I h=>Constant_bool ⟨.bl b,H,I,rfl,h⟩
theorem tG {j pos}:PE X (.Constant .none j pos) (tC .non):=fun _ _ _ H _ I h=>Constant_none ⟨.non,H,I,rfl,h⟩
theorem tH {x j pos}:PE X (.Constant (.str x) j pos) (tC (.str x)):=fun _ _ _ H _ I h=>Calls.Constant_str ⟨.str x,H,I.tok _,⟨_,rfl⟩,h⟩
def Gl (X:Cx) (x:Str):Prop:=X.env.kindOf x=some .globalImplicit
theorem VB {E:Value->Shared->Prop}{pins:List (Addr×Obj)}{s:Shared}{σ:St}{H:Hp}{x:Str}{u:Value}{pos:Pos}{Q:Value->Shared->Prop}(I:Inv X pins σ H s) (hg:Gl X x) (hm:X.mg x=some u) (h:Q u s)
   (hd:(x==("__debug__":Str))=false:=by decide):wpAny (model X.prog X.w) X.A (eval (.Name x pos) X.env) Q E s:=
 Calls.Name_function_global I.ok.kind hg (Calls.loadGlobal_global (by rw[I.ok.glob];exact I.mod.glob.keeps I.bk) hm h) hd
theorem GL {E:Value->Shared->Prop}{pins:List (Addr×Obj)}{s:Shared}{σ:St}{H:Hp}{x:Str}{u:Value}{pos:Pos}{Q:Value->Shared->Prop}(I:Inv X pins σ H s) (hg:Gl X x) (hm:X.mg x=none) (hv:bootBuiltins x=some u) (h:Q u s)
   (hn:x ≠ "__name__" := by decide) (hd:(x==("__debug__":Str))=false:=by decide):wpAny (model X.prog X.w) X.A (eval (.Name x pos) X.env) Q E s:=by
 obtain⟨mb,h1,h2⟩:=I.mod.blt
 exact Calls.Name_function_global I.ok.kind hg (Calls.loadGlobal_builtin (by rw[I.ok.glob];exact I.mod.glob.keeps I.bk) hm (by rw[I.ok.blt];exact h1.keeps I.bk) ((h2 x hn).trans hv) h) hd
theorem cT {x:Str}{v:V}{u:Value}{pos:Pos}(hg:Gl X x) (hm:X.mg x=some u) (r:RelV v u) (hd:(x==("__debug__":Str))=false:=by decide):PE X (.Name x pos) (tC v):=
 fun _ _ _ H _ I h=>VB I hg hm ⟨v,H,I,r,h⟩ hd
theorem G7 {x:Str}{v:V}{u:Value}{pos:Pos}(hg:Gl X x) (hm:X.mg x=none) (hv:bootBuiltins x=some u) (r:RelV v u) (hn:x ≠ "__name__" := by decide) (hd:(x==("__debug__":Str))=false:=by decide):PE X (.Name x pos) (tC v):=
 fun _ _ _ H _ I h=>GL I hg hm hv ⟨v,H,I,r,h⟩ hn hd
variable {a b:Expr}{ta tb:TE}{pos:Pos}
def PC (X:Cx) (op:CmpOp) (a b:Expr) (t:TE):Prop:=
 ∀(pins:List (Addr×Obj)) (s:Shared) (σ:St) (H:Hp) (Q:VK),Inv X pins σ H s->t σ H Q ->
   wpAny (model X.prog X.w) X.A (eval a X.env) (fun v s₁=>wpAny (model X.prog X.w) X.A (eval b X.env) (fun u s₂=>wpAny (model X.prog X.w) X.A (compareOp op v u) (EP X pins σ Q) X.xe s₂) X.xe s₁) X.xe s
def tB (t:TE):TT:=fun σ H Q=>t σ H fun x H1=>∃c,x = .bl c/\Q c H1
theorem tI {op:CmpOp}{t:TE}(h:PC X op a b t) (h1:behindInMarks op b=false:=by first | exact nobehind _ (by decide) (by decide) | rfl):PE X (.Compare a [op] [b] pos) t:=fun pins s σ H Q I hw=>wpAny_Compare1 (h pins s σ H Q I hw) h1
theorem tJ {op:CmpOp}{t:TE}(h:PC X op a b t) (h1:behindInMarks op b=false:=by first | exact nobehind _ (by decide) (by decide) | rfl):PT X (.Compare a [op] [b] pos) (tB t):=by
 intro pins s σ H Q I hw
 refine wpAny_isTrue_Compare1 (thn (h pins s σ H _ I hw) fun v s1 h1=>thn h1 fun u s2 h2=>thn h2 fun c s3 ⟨x,H1,I1,r1,q1⟩=>?_) h1
 obtain⟨d,rfl,q⟩:=q1
 cases r1
 exact wpAny_truthy_bool ⟨H1,I1,q⟩
theorem j0 {e:Expr}{t:TE}(h:PE X e t) (he:∀whole,isTrue e X.env whole=(do let v ← whole;standAt e.pos;holding [v] (truthy v)):=by intro _;rfl):PT X e (tB t):=by
 intro pins s σ H Q I hw
 refine isTrue_plain (thn (h pins s σ H _ I hw) fun v s1 ⟨x,H1,I1,r1,q1⟩=>?_) (he _)
 obtain⟨d,rfl,q⟩:=q1
 cases r1
 exact wpAny_truthy_bool ⟨H1,I1,q⟩
variable {tA tB':TT}{rest:List Expr}
def xO (t u:TT):TT:=fun σ H Q=>t σ H fun c H1=>if c=true then u σ H1 Q else Q false H1
def tOr (t u:TT):TT:=fun σ H Q=>t σ H fun c H1=>if c=true then Q true H1 else u σ H1 Q
def xQ (t:TT):TT:=fun σ H Q=>t σ H fun c H1=>Q (!c) H1
theorem pw_and1 (ha:PT X a tA):PW X (.BoolOp .And [a] pos) tA:=by
 intro wh pins s σ H Q I h
 refine isTrue_and (thn (ha pins s σ H Q I h) fun c s1 e=>?_)
 cases c with
 | true=>exact isTrue_and_nil e
 | false=>exact e
theorem pw_or1 (ha:PT X a tA):PW X (.BoolOp .Or [a] pos) tA:=by
 intro wh pins s σ H Q I h
 refine isTrue_or (thn (ha pins s σ H Q I h) fun c s1 e=>?_)
 cases c with
 | false=>exact isTrue_or_nil e
 | true=>exact e
theorem pw_and (ha:PT X a tA) (hb:PW X (.BoolOp .And (b::rest) pos) tB'):PW X (.BoolOp .And (a::b::rest) pos) (xO tA tB'):=by
 intro wh pins s σ H Q I h
 refine isTrue_and (thn (ha pins s σ H _ I h) fun c s1 ⟨H1,I1,q1⟩=>?_)
 cases c with
 | true=>exact hb wh pins s1 σ H1 Q I1 q1
 | false=>exact⟨H1,I1,q1⟩
theorem pw_or (ha:PT X a tA) (hb:PW X (.BoolOp .Or (b::rest) pos) tB'):PW X (.BoolOp .Or (a::b::rest) pos) (tOr tA tB'):=by
 intro wh pins s σ H Q I h
 refine isTrue_or (thn (ha pins s σ H _ I h) fun c s1 ⟨H1,I1,q1⟩=>?_)
 cases c with
 | true=>exact⟨H1,I1,q1⟩
 | false=>exact hb wh pins s1 σ H1 Q I1 q1
theorem j1 (ha:PT X a tA):PT X (.UnaryOp .Not a pos) (xQ tA):=by
 intro pins s σ H Q I h
 exact isTrue_not (ha pins s σ H (fun c H1=>Q (!c) H1) I h)
def rT (ta tb:TE):TE:=fun σ H Q=>ta σ H fun x H1=>∃c,x = .bl c/\if c=true then tb σ H1 Q else Q (.bl false) H1
def xS (ta tb:TE):TE:=fun σ H Q=>ta σ H fun x H1=>∃c,x = .bl c/\if c=true then Q (.bl true) H1 else tb σ H1 Q
def rV (ta:TE):TE:=fun σ H Q=>ta σ H fun x H1=>∃c,x = .bl c/\Q (.bl (!c)) H1
theorem j2 {op} {t:TE}(h:PE X a t):PE X (.BoolOp op [a] pos) t:=fun pins s σ H Q I hw=>BoolOp_one (h pins s σ H Q I hw)
theorem aE (ha:PE X a ta) (hb:PE X (.BoolOp .And (b::rest) pos) tb):PE X (.BoolOp .And (a::b::rest) pos) (rT ta tb):=by
 intro pins s σ H Q I h
 refine BoolOp_and (thn (ha pins s σ H _ I h) fun v s1 ⟨x,H1,I1,r1,q1⟩=>?_)
 obtain⟨c,rfl,q1⟩:=q1
 cases r1
 refine wpAny_truthy_bool ?_
 cases c with
 | true=>exact hb pins s1 σ H1 Q I1 q1
 | false=>exact⟨.bl false,H1,I1,rfl,q1⟩
theorem xU (ha:PE X a ta) (hb:PE X (.BoolOp .Or (b::rest) pos) tb):PE X (.BoolOp .Or (a::b::rest) pos) (xS ta tb):=by
 intro pins s σ H Q I h
 refine BoolOp_or (thn (ha pins s σ H _ I h) fun v s1 ⟨x,H1,I1,r1,q1⟩=>?_)
 obtain⟨c,rfl,q1⟩:=q1
 cases r1
 refine wpAny_truthy_bool ?_
 cases c with
 | false=>exact hb pins s1 σ H1 Q I1 q1
 | true=>exact⟨.bl true,H1,I1,rfl,q1⟩
theorem tK (ha:PE X a ta):PE X (.UnaryOp .Not a pos) (rV ta):=by
 intro pins s σ H Q I h
 refine UnaryOp_ (thn (ha pins s σ H _ I h) fun v s1 ⟨x,H1,I1,r1,q1⟩=>?_)
 obtain⟨c,rfl,q1⟩:=q1
 cases r1
 exact not_of (wpAny_truthy_bool ⟨.bl (!c),H1,I1,rfl,q1⟩)
def tIf (t:TT) (ta tb:TE):TE:=fun σ H Q=>t σ H fun c H1=>if c=true then ta σ H1 Q else tb σ H1 Q
theorem j3 {c:Expr}(hc:PT X c tA) (ha:PE X a ta) (hb:PE X b tb):PE X (.IfExp c a b pos) (tIf tA ta tb):=by
 intro pins s σ H Q I h
 refine wpAny_IfExp (thn (hc pins s σ H _ I h) fun d s1 ⟨H1,I1,q1⟩=>?_)
 cases d with
 | true=>exact ha pins s1 σ H1 Q I1 q1
 | false=>exact hb pins s1 σ H1 Q I1 q1
end
def SqL (K:Frg) (H:Hp) (a:Addr) (xs:List V):Prop:=
 Rd H a (.lst xs) ∨
   ∃(o:Obj) (its:Array Value) (n:Nat),K.lookup a=some o/\o.cls = .type "list" /\ o.dict=none/\o.data = .seq its n/\its.size<=sizeLine/\Vals xs its.toList
def SqT (K:Frg) (H:Hp) (a:Addr) (xs:List V):Prop:=
 Rd H a (.tup xs) ∨
   ∃(o:Obj) (its:Array Value) (n:Nat),K.lookup a=some o/\o.cls = .type "tuple" /\ o.data = .seq its n/\its.size<=sizeLine/\Vals xs its.toList
def A0x:Value->Option V
 | .none=>some .non
 | .bool b=>some (.bl b)
 | .int i _=>some (.int i)
 | .str x _=>some (.str x)
 | .bytes b _=>some (.byt b)
 | .float b _=>some (.flt b)
 | .ref a=>some (.ref a)
 | .type n=>some (.ty n)
 | _=>none
theorem RelV.abs {x:V}{u:Value}(r:RelV x u):A0x u=some x:=by
 cases x with
 | non=>cases r;rfl
 | bl _=>cases r;rfl
 | int _=>obtain⟨t,rfl⟩:=r;rfl
 | str _=>obtain⟨t,rfl⟩:=r;rfl
 | byt _=>obtain⟨t,rfl⟩:=r;rfl
 | flt _=>obtain⟨t,rfl⟩:=r;rfl
 | ref _=>cases r;rfl
 | ty _=>cases r;rfl
theorem RelV.inj {x y:V}{u:Value}(r:RelV x u) (q:RelV y u):x=y:=Option.some.inj (r.abs.symm.trans q.abs)
theorem Vals.inj:∀{xs ys:List V}{us:List Value},Vals xs us->Vals ys us->xs=ys
 | _,_,_,.nil,.nil=>rfl
 | _,_,_,.cons r t,.cons r' t'=>by rw[r.inj r',Vals.inj t t']
section
variable {X:Cx}{pins:List (Addr×Obj)}{σ:St}{H:Hp}{s:Shared}{a:Addr}{xs ys:List V}
theorem SqL.of {K:Frg}(h:H a=some (.lst xs)):SqL K H a xs:=.inl (.inl h)
theorem Inv.list (I:Inv X pins σ H s) (h:SqL X.K H a xs):∃its:List Value,Vals xs its/\PlainL s.heap a its.toArray/\xs.length<=sizeLine:=by
 rcases h with h | ⟨o,its,n,hk,hc,hd,hs,hz,r⟩
 · obtain⟨z,its,n,r,e⟩:=h.ok I.hok
   exact⟨its,r,⟨_,n,e,rfl,rfl,rfl⟩,z⟩
 · refine⟨its.toList,r,⟨o,n,I.kIn a o hk,hc,hd,by simpa using hs⟩,?_⟩
   have e:=r.length
   simp only[a0K] at e
   omega
theorem Inv.tuple (I:Inv X pins σ H s) (h:SqT X.K H a xs):∃its:List Value,Vals xs its/\IsTup s.heap a its.toArray/\xs.length<=sizeLine:=by
 rcases h with h | ⟨o,its,n,hk,hc,hs,hz,r⟩
 · obtain⟨z,its,r,p⟩:=h.ok I.hok
   exact⟨its,r,p,z⟩
 · refine⟨its.toList,r,⟨o,I.kIn a o hk,hc,n,by simpa using hs⟩,?_⟩
   have e:=r.length
   simp only[a0K] at e
   omega
theorem Inv.list_inj (I:Inv X pins σ H s) (h:SqL X.K H a xs) (h':SqL X.K H a ys):xs=ys:=by
 obtain⟨its,r,⟨o,n,e,_,_,d⟩,_⟩:=I.list h
 obtain⟨its',r',⟨o',n',e',_,_,d'⟩,_⟩:=I.list h'
 rw[e] at e';cases e'
 rw[d] at d'
 injection d' with d1 _
 have:its=its':=by simpa using congrArg Array.toList d1
 subst this
 exact r.inj r'
theorem Inv.tuple_inj (I:Inv X pins σ H s) (h:SqT X.K H a xs) (h':SqT X.K H a ys):xs=ys:=by
 obtain⟨its,r,⟨o,e,_,n,d⟩,_⟩:=I.tuple h
 obtain⟨its',r',⟨o',e',_,n',d'⟩,_⟩:=I.tuple h'
 rw[e] at e';cases e'
 rw[d] at d'
 injection d' with d1 _
 have:its=its':=by simpa using congrArg Array.toList d1
 subst this
 exact r.inj r'
end
abbrev Cx.wish (X:Cx) (E:Value->Shared->Prop):Cx:={ X with xe:=E }
abbrev Cx.nox (X:Cx):Cx:=X.wish fun _ _=>False
theorem Cx.Ok.wish {X:Cx}(ok:X.Ok) (E:Value->Shared->Prop):(X.wish E).Ok:=
 ⟨ok.mod,ok.kind,ok.glob,ok.blt,ok.above,ok.inj,ok.has,ok.cab,ok.hd,ok.frames,ok.stk,ok.exf,ok.bs,ok.bsz,ok.noex,ok.exfs,ok.funs,ok.frf⟩
theorem Cx.Ok.unwish {X:Cx}{E:Value->Shared->Prop}(ok:(X.wish E).Ok):X.Ok:=
 ⟨ok.mod,ok.kind,ok.glob,ok.blt,ok.above,ok.inj,ok.has,ok.cab,ok.hd,ok.frames,ok.stk,ok.exf,ok.bs,ok.bsz,ok.noex,ok.exfs,ok.funs,ok.frf⟩
section
variable {X:Cx}{pins:List (Addr×Obj)}{σ:St}{H:Hp}{s:Shared}{E:Value->Shared->Prop}
theorem Inv.wish (I:Inv X pins σ H s) (E:Value->Shared->Prop):Inv (X.wish E) pins σ H s:=⟨I.ok.wish E,I.os,I.bare,I.base,I.loc,I.cell,I.free,I.freeC,I.pin,I.hok,I.len⟩
theorem Inv.unwish (I:Inv (X.wish E) pins σ H s):Inv X pins σ H s:=⟨I.ok.unwish,I.os,I.bare,I.base,I.loc,I.cell,I.free,I.freeC,I.pin,I.hok,I.len⟩
theorem SP.unwish {D:Ends}{f:Flow}{s':Shared}(h:SP (X.wish E) pins D f s'):SP X pins D f s':=by
 cases f with
 | next=>obtain⟨σ',H',I,q⟩:=h;exact⟨σ',H',I.unwish,q⟩
 | brk=>obtain⟨σ',H',I,q⟩:=h;exact⟨σ',H',I.unwish,q⟩
 | cont=>obtain⟨σ',H',I,q⟩:=h;exact⟨σ',H',I.unwish,q⟩
 | ret u=>obtain⟨v,σ',H',I,r,q⟩:=h;exact⟨v,σ',H',I.unwish,r,q⟩
theorem PSs.nox {st:List Stmt}{t:TS}(h:PSs X.nox st t):PSs X st t:=fun pins s σ H D I hw=>
 wpAny_mono (h pins s σ H D (I.wish _) hw) (fun _ _ q=>q.unwish) fun _ _ z=>b4W z
end
section
variable {X:Cx}{st:Stmt}{rest:List Stmt}{t u:TS}{e:Expr}{te:TE}{pos:Pos}
def rW:TS:=fun D σ H=>D.nx σ H
def tL (t u:TS):TS:=fun D σ H=>t { D with nx:=u D } σ H
theorem cU:PSs X [] rW:=fun _ _ σ H _ I h=>wpAny_execs_nil ⟨σ,H,I,h⟩
theorem MC (h1:PS X st t) (h2:PSs X rest u):PSs X (st::rest) (tL t u):=by
 intro pins s σ H D I h
 refine wpAny_execs_cons (thn (h1 pins s σ H { D with nx:=u D } I h) fun f s1 q=>?_)
 cases f with
 | next=>
   obtain⟨σ',H',I',q⟩:=q
   exact h2 pins s1 σ' H' D I' q
 | ret v=>exact q
 | brk=>exact q
 | cont=>exact q
theorem KF (h1:PS X st t):PSs X [st] t:=by
 intro pins s σ H D I h
 refine wpAny_execs_cons (thn (h1 pins s σ H D I h) fun f s1 q=>?_)
 cases f with
 | next=>exact wpAny_execs_nil q
 | ret v=>exact q
 | brk=>exact q
 | cont=>exact q
theorem Inv.quiet {pins:List (Addr×Obj)}{σ:St}{H:Hp}{s:Shared}(I:Inv X pins σ H s):interactive X.env=false:=by simp[interactive,I.ok.kind]
def rX (te:TE):TS:=fun D σ H=>te σ H fun _ H1=>D.nx σ H1
theorem nV (he:PE X e te) (hs:swapsWith e none pos.line X.env=pure false:=by rfl):PS X (.Expr e pos) (rX te):=by
 intro pins s σ H D I h
 exact wpAny_Expr_any (thn (he pins s σ H _ I h) fun v s1 ⟨x,H1,I1,r1,q1⟩=>⟨σ,H1,I1,q1⟩) I.quiet hs
def xW (te:TE):TS:=fun D σ H=>te σ H D.rt
theorem Q8 (he:PE X e te):PS X (.Return (some e) pos) (xW te):=by
 intro pins s σ H D I h
 exact wpAny_Return_some (thn (he pins s σ H _ I h) fun v s1 ⟨x,H1,I1,r1,q1⟩=>⟨x,σ,H1,I1,r1,q1⟩)
def xY (c:TT) (t u:TS):TS:=fun D σ H=>c σ H fun b H1=>if b=true then t D σ H1 else u D σ H1
theorem j4 {c:Expr}{a b:List Stmt}{tc:TT}(hc:PT X c tc) (ha:PSs X a t) (hb:PSs X b u):PS X (.If c a b pos) (xY tc t u):=by
 intro pins s σ H D I h
 refine wpAny_If (thn (hc pins s σ H _ I h) fun d s1 ⟨H1,I1,q1⟩=>?_)
 cases d with
 | true=>exact ha pins s1 σ H1 D I1 q1
 | false=>exact hb pins s1 σ H1 D I1 q1
def aF:TS:=fun _ _ _=>False
theorem j5:PS X st aF:=fun _ _ _ _ _ _ h=>h.elim
theorem NS {sts:List Stmt}:PSs X sts aF:=fun _ _ _ _ _ _ h=>h.elim
end
abbrev TG:=V->St->Hp->(St->Hp->Prop)->Prop
abbrev TGs:=List V->St->Hp->(St->Hp->Prop)->Prop
def PG (X:Cx) (target:Expr) (t:TG):Prop:=
 ∀(pins:List (Addr×Obj)) (s:Shared) (σ:St) (H:Hp) (v:V) (u:Value) (Q:St->Hp->Prop),Inv X pins σ H s->RelV v u->t v σ H Q ->
   wpAny (model X.prog X.w) X.A (assign target X.env u) (fun _ s'=>∃σ' H',Inv X pins σ' H' s'/\Q σ' H') X.xe s
def PGs (X:Cx) (ts:List Expr) (t:TGs):Prop:=
 ∀(pins:List (Addr×Obj)) (s:Shared) (σ:St) (H:Hp) (vs:List V) (us:List Value) (Q:St->Hp->Prop),Inv X pins σ H s->Vals vs us->t vs σ H Q ->
   wpAny (model X.prog X.w) X.A (assignInOrder ((assignEach ts X.env).map (·.2)) us) (fun _ s'=>∃σ' H',Inv X pins σ' H' s'/\Q σ' H') X.xe s
abbrev tM:=V->V->V->Hp->(Hp->Prop)->Prop
def y3 (X:Cx) (t:tM):Prop:=
 ∀(pins:List (Addr×Obj)) (s:Shared) (σ:St) (H:Hp) (o i v:V) (ov iv u:Value) (Q:Hp->Prop),Inv X pins σ H s->RelV o ov->RelV i iv->RelV v u->t o i v H Q ->
   wpAny (model X.prog X.w) X.A (setItem ov iv u) (fun _ s'=>∃H',Inv X pins σ H' s'/\Q H') X.xe s
section
variable {X:Cx}{pos:Pos}
def Q9 (i:Nat):TG:=fun v σ H Q=>Q (σ.set i (some v)) H
theorem CZ {i:Nat}{x:Str}(hN:X.N.Nodup) (hi:X.N[i]?=some x) (hx:Loc X.env.scope x) (hf:X.fn x=true∨X.env.scope.names.lookup x=some .local:=by first | exact .inl rfl | exact .inr rfl | assumption):PG X (.Name x pos) (Q9 i):=by
 intro pins s σ H v u Q I r h
 exact wpAny_assign_Name (MB I hN hi hx r (fun s' I'=>⟨_,H,I',h⟩) hf)
def tN:TGs:=fun vs σ H Q=>vs=[]/\Q σ H
def cV (t:TG) (u:TGs):TGs:=fun vs σ H Q=>∃v r,vs=v::r/\t v σ H fun σ' H'=>u r σ' H' Q
theorem MD:PGs X [] tN:=by
 intro pins s σ H vs us Q I r h
 obtain⟨e,h⟩:=h
 subst e
 cases r
 exact assignInOrder_nil ⟨σ,H,I,h⟩
theorem CN {e:Expr}{es:List Expr}{t:TG}{u:TGs}(h1:PG X e t) (h2:PGs X es u)
   (hs:(assignEach (e::es) X.env).map (·.2)=assign e X.env::(assignEach es X.env).map (·.2):=by rfl):PGs X (e::es) (cV t u):=by
 intro pins s σ H vs us Q I r h
 obtain⟨v,vr,e1,h⟩:=h
 subst e1
 cases r with
 | cons r rr=>
   rw[hs]
   refine assignInOrder_cons (thn (h1 pins s σ H _ _ _ I r h) fun _ s1 ⟨σ1,H1,I1,q1⟩=>?_)
   exact h2 pins s1 σ1 H1 _ _ Q I1 rr q1
def nW (K:Frg) (n:Nat) (t:TGs):TG:=fun v σ H Q=>∃a xs,v = .ref a/\SqT K H a xs/\xs.length=n/\t xs σ H Q
theorem j6 {es:List Expr}{k:Nat}{t:TGs}{n:Nat}(hc:X.calm=true) (h:PGs X es t)
   (hn:(assignEach es X.env).length=n:=by rfl) (hst:(assignEach es X.env).findIdx? (·.1)=none:=by rfl):PG X (.Tuple es k pos) (nW X.K n t):=by
 intro pins s σ H v u Q I r hw
 obtain⟨a,xs,e1,hq,hl,hw⟩:=hw
 subst e1
 cases r
 obtain⟨its,rv,ht,hz⟩:=I.tuple hq
 refine assign_Tuple_tuple (I.ok.hd hc) ht (by simp[hn,← hl,rv.length]) hst fun h' hx=>?_
 have I1:Inv X pins σ H { s with heap:=h' }:=I.kept (t':=s.toks) fun b o e=>hx b o (zC (zM e)) e
 exact h pins _ σ H xs _ Q I1 (by simpa using rv) hw
def y4 (to ti:TE) (t:tM):TG:=fun v σ H Q=>to σ H fun o H1=>ti σ H1 fun i H2=>t o i v H2 fun H3=>Q σ H3
theorem tP {o i:Expr}{to ti:TE}{t:tM}(ho:PE X o to) (hi:PE X i ti) (hs:y3 X t)
   (ha:∀v,assign (.Subscript o i pos) X.env v=(do
     let ov ← holding [v] (eval o X.env)
     let iv ← holding [v,ov] (eval i X.env)
     standAt pos
     holding [v,ov,iv] (setItem ov iv v)
     release [v,ov,iv] []):=by intro _;rfl):PG X (.Subscript o i pos) (y4 to ti t):=by
 intro pins s σ H v u Q I r h
 rw[ha]
 refine zZ (wpAny_holding (thn (ho pins s σ H _ I h) fun ov s1 ⟨x,H1,I1,r1,q1⟩=>?_))
 refine zZ (wpAny_holding (thn (hi pins s1 σ H1 _ I1 q1) fun iv s2 ⟨y,H2,I2,r2,q2⟩=>?_))
 refine zZ (wpAny_standAt (zZ (wpAny_holding (thn (hs pins s2 σ H2 x y v ov iv u _ I2 r1 r2 r q2) fun _ s3 ⟨H3,I3,q3⟩=>?_))))
 exact wpAny_release ⟨σ,H3,I3,q3⟩
def nX (te:TE) (g:TG):TS:=fun D σ H=>te σ H fun x H1=>g x σ H1 D.nx
theorem GM {tg e:Expr}{te:TE}{g:TG}(he:PE X e te) (hg:PG X tg g) (hs:swapsWithSole [tg] e pos.line X.env=pure false:=by rfl) (hw:swappedStores [tg] e X.env=pure none:=by rfl)
   (h1:(assignEach [tg] X.env).map (·.2)=[assign tg X.env]:=by rfl):PS X (.Assign [tg] e pos) (nX te g):=by
 intro pins s σ H D I h
 refine wpAny_Assign_stores (thn (he pins s σ H _ I h) fun v s1 ⟨x,H1,I1,r1,q1⟩=>?_) hs hw
 rw[h1]
 exact thn (hg pins s1 σ H1 x v _ I1 r1 q1) fun _ s2 q=>q
theorem tQ {i:Nat}{x:Str}{e:Expr}{te:TE}{pos':Pos}(hN:X.N.Nodup) (hi:X.N[i]?=some x) (hx:Loc X.env.scope x) (he:PE X e te) (hs:swapsWith e (some (.Name x pos')) pos.line X.env=pure false:=by rfl) (hf:X.fn x=true∨X.env.scope.names.lookup x=some .local:=by first | exact .inl rfl | exact .inr rfl | assumption) :
   PS X (.Assign [.Name x pos'] e pos) (nX te (Q9 i)):=by
 intro pins s σ H D I h
 refine wpAny_Assign_Name (thn (he pins s σ H _ I h) fun v s1 ⟨y,H1,I1,r1,q1⟩=>?_) hs
 exact MB I1 hN hi hx r1 (fun s2 I2=>⟨_,H1,I2,q1⟩) hf
def y9 (i j:Nat) (ta:TA):TS:=fun D σ H=>ta σ H fun vs H1=>∃v w,vs=[v,w]/\D.nx ((σ.set i (some v)).set j (some w)) H1
theorem tR {i j:Nat}{x y:Str}{a b:Expr}{ta:TA}{px py pt:Pos}{kt k2 pt2} (hc:X.calm=true) (hN:X.N.Nodup) (hi:X.N[i]?=some x) (hj:X.N[j]?=some y) (hij:i≠j)
   (hx:X.env.scope.names.lookup x=some .local) (hy:X.env.scope.names.lookup y=some .local) (ha:PA X [a,b] ta)
   (hw:swappedStores [.Tuple [.Name x px,.Name y py] kt pt] (.Tuple [a,b] k2 pt2) X.env=pure (some [x,y]))
   (hs:swapsWithSole [.Tuple [.Name x px,.Name y py] kt pt] (.Tuple [a,b] k2 pt2) pos.line X.env=pure false:=by rfl) :
   PS X (.Assign [.Tuple [.Name x px,.Name y py] kt pt] (.Tuple [a,b] k2 pt2) pos) (y9 i j ta):=by
 intro pins s σ H D I h
 rw[exec_Assign_arm]
 refine zZ (wpAny_standAt ?_)
 rw[hs]
 refine zZ (zY ?_)
 rw[if_neg (by decide)]
 refine zZ (Tuple_ (thn (ha _ pins s σ H _ I h) fun us s1 ⟨vs,H1,I1,r1,q1⟩=>?_))
 obtain⟨v,w,e1,q1⟩:=q1
 subst e1
 obtain⟨u1,u2,rfl,rv,rw'⟩:∃u1 u2,us=[u1,u2]/\RelV v u1/\RelV w u2:=by
   cases r1 with
   | cons p q=>
     cases q with
     | cons p' q'=>
       cases q'
       exact⟨_,_,rfl,p,p'⟩
 refine xM ?_ (by show 2<=sizeLine;decide)
 have I2:Inv X pins σ H1 { s1 with heap:=s1.heap.push { cls:=.type "tuple", data:=.seq [u1,u2].toArray } }:=I1.kept (t':=s1.toks) fun b o e=>zW _ e
 rw[hw]
 refine zZ (zY ?_)
 show wpAny (model X.prog X.w) X.A (do rule "assign.swapped-stores";let items ← unpackItems (.ref s1.heap.objs.size) 2 none;assignInOrder [fun v=>bindName X.env y v,fun v=>bindName X.env x v] items.reverse;pure Flow.next) _ _ _
 refine zZ (wpAny_rule (zZ (unpackItems_tuple (items:=#[u1,u2]) (I.ok.hd hc) (IsTup.new s1.heap _) fun h' hx'=>?_)))
 have I3:=I2.kept (h':=h') (t':=s1.toks) fun b o e=>hx' b o (zC (zM e)) e
 show wpAny _ _ (assignInOrder [fun v=>bindName X.env y v,fun v=>bindName X.env x v] [u2,u1] >>= fun _=>pure Flow.next) _ _ _
 refine zZ (assignInOrder_cons (wpAny_bindName (MB I3 hN hj (.inl hy) rw' (fun s2 I4=>?_) (.inr hy))))
 refine assignInOrder_cons (wpAny_bindName (MB I4 hN hi (.inl hx) rv (fun s3 I5=>assignInOrder_nil (zY ?_)) (.inr hx)))
 rw[List.set_comm _ _ (b5Q hij)] at I5
 exact⟨_,H1,I5,q1⟩
def j7 (c:TT) (tb:TS):TS:=fun D σ H=>∃W:Nat->St->Hp->Prop,(∃m,W m σ H)/\∀m σ H,W m σ H ->
 c σ H fun b H1=>if b=true then ∃N:St->Hp->Prop,(∀σ' H',N σ' H'->∃m',m' < m/\W m' σ' H')/\tb { D with nx:=N,ct:=N,bk:=D.nx } σ H1 else D.nx σ H1
theorem XG {c:Expr}{body:List Stmt}{tc:TT}{tb:TS}(hp:PassesOwn (model X.prog X.w) X.A X.env X.xe) (hc:PT X c tc) (hb:PSs X body tb):PS X (.While c body [] pos) (j7 tc tb):=by
 intro pins s σ H D I h
 obtain⟨W,⟨m0,w0⟩,turn⟩:=h
 refine wpAny_While (codeAny_whileLoop (fun n s'=>∃σ' H',Inv X pins σ' H' s'/\W n σ' H') ?_ m0 ⟨σ,H,I,w0⟩)
 rintro n s1 ⟨σ1,H1,I1,w1⟩
 refine wpAny_passesOwn hp (thn (hc pins s1 σ1 H1 _ I1 (turn n σ1 H1 w1)) fun b s2 ⟨H2,I2,q2⟩=>?_)
 cases b with
 | true=>
   obtain⟨N,hN,q2⟩:=q2
   rw[if_pos rfl]
   refine wpAny_passesOwn hp (thn (hb pins s2 σ1 H2 _ I2 q2) fun f s3 q3=>?_)
   cases f with
   | next=>
     obtain⟨σ3,H3,I3,n3⟩:=q3
     obtain⟨m',hm,w3⟩:=hN σ3 H3 n3
     exact⟨m',hm,σ3,H3,I3,w3⟩
   | cont=>
     obtain⟨σ3,H3,I3,n3⟩:=q3
     obtain⟨m',hm,w3⟩:=hN σ3 H3 n3
     exact⟨m',hm,σ3,H3,I3,w3⟩
   | brk=>exact q3
   | ret v=>exact q3
 | false=>
   rw[if_neg nft]
   exact wpAny_execs_nil ⟨σ1,H2,I2,q2⟩
end
structure It where
 go:Nat->Hp->Prop
 yld:Nat->Hp->V->Hp->Prop
 stop:Nat->Hp->Prop
def LN (X:Cx) (pins:List (Addr×Obj)) (H:Hp) (b:Addr):Prop:=
 H b=none/\b≠X.env.locals/\b∉X.fs/\(b∈X.ex∨X.s₀.heap.objs.size<=b)/\(∀x c,X.env.cells.lookup x=some c->c≠b)/\∀p∈X.pn++pins,p.1≠b
theorem Inv.fpOk {X:Cx}{pins:List (Addr×Obj)}{σ:St}{H H':Hp}{s:Shared}{b:Addr}(I:Inv X pins σ H s) (hb:s.heap.objs.size<=b) (hn:H' b=none):LN X pins H' b:=by
 refine⟨hn,a5X (zP I.lt hb),I.nofs hb,.inr (zN I.sz hb),fun x c e z=>?_,fun p hp z=>?_⟩
 · obtain⟨v,q⟩:=I.cell x c e
   exact absurd (zP q.lt (by rw[z];exact hb)) (yF _)
 · exact absurd (zP (zM (I.pin p hp).1) (by rw[z];exact hb)) (yF _)
structure Turn (P:Program) (w:World) (K:Frg) (tg:Expr) (J:It) (fp:List Addr) (it:Addr) (tn:Nat->Heap->Prop):Prop where
 mem:it∈fp
 obj:∀i h,tn i h->∀b∈fp,∃o,h.get? b=some o/\∀v,o.data≠.cell v
 keep:∀i h h',tn i h->(∀b∈fp,∀o,h.get? b=some o->h'.get? b=some o)->tn i h'
 item:∀(X:Cx),X.prog=P->X.w=w->X.K=K->X.calm=true->∀(i:Nat) (pins:List (Addr×Obj)) (s:Shared) (σ:St) (H:Hp) (E:Value->Shared->Prop),Inv X pins σ H s->(∀b∈fp,LN X pins H b)->tn i s.heap->J.go i H ->
   wpAny (model P w) X.A (pyNext (.ref it)) (fun r s1=>∃u,r=some u /\
     wpAny (model P w) X.A (letOwnedTupleGo tg (.ref it) u) (fun _ s2=>∃x H',Inv X pins σ H' s2/\RelV x u/\J.yld i H x H'/\tn (i+1) s2.heap/\∀b∈fp,H' b=none) E s1) E s
 done:∀(X:Cx),X.prog=P->X.w=w->X.K=K->X.calm=true->∀(i:Nat) (pins:List (Addr×Obj)) (s:Shared) (σ:St) (H:Hp) (E:Value->Shared->Prop),Inv X pins σ H s->(∀b∈fp,LN X pins H b)->tn i s.heap->J.stop i H ->
   wpAny (model P w) X.A (pyNext (.ref it)) (fun r s1=>r=none/\Inv X pins σ H s1) E s
 self:∀(A:Around) (i:Nat) (s:Shared) (Q:Value->Shared->Prop) (E:Value->Shared->Prop),tn i s.heap->Q (.ref it) s->wpAny (model P w) A (pyIter (.ref it)) Q E s
abbrev TI:=St->Hp->(It->Hp->Prop)->Prop
def PIE (X:Cx) (pins:List (Addr×Obj)) (σ:St) (tg:Expr) (R:It->Hp->Prop) (itv:Value) (s2:Shared):Prop:=
 ∃(it:Addr) (fp:List Addr) (tn:Nat->Heap->Prop) (J:It) (H':Hp),itv = .ref it/\Inv X pins σ H' s2/\Turn X.prog X.w X.K tg J fp it tn/\tn 0 s2.heap/\(∀b∈fp,LN X pins H' b)/\R J H'
def PI (X:Cx) (tg iter:Expr) (wi:TI):Prop:=
 ∀(pins:List (Addr×Obj)) (s:Shared) (σ:St) (H:Hp) (R:It->Hp->Prop),Inv X pins σ H s->wi σ H R ->
   wpAny (model X.prog X.w) X.A (eval iter X.env) (fun v s1=>wpAny (model X.prog X.w) X.A (pyIter v) (PIE X pins σ tg R) X.xe s1) X.xe s
theorem cW {M:Model}{A:Around}{E:Value->Shared->Prop}{s:Shared}{tg:Expr}{it:Addr}{u:Value}{o:Obj}{n:String}{vs:Array Value}{Q:Unit->Shared->Prop}(ho:s.heap.get? it=some o) (hc:o.cls = .type n) (hd:o.data = .fields vs)
   (hn:["enumerate", "zip", "dict_itemiterator", "dict_reverseitemiterator", "odict_iterator", "itertools.zip_longest", "itertools.pairwise"].contains n=false) (hQ:Q () s):wpAny M A (letOwnedTupleGo tg (.ref it) u) Q E s:=by
 unfold letOwnedTupleGo
 cases tg <;> first
   | exact zY hQ
   | (cases u <;> first
       | exact zY hQ
       | (refine zZ (wpAny_load ho ?_)
          rw[hc,hd]
          show wpAny M A (if (["enumerate", "zip", "dict_itemiterator", "dict_reverseitemiterator", "odict_iterator", "itertools.zip_longest", "itertools.pairwise"].contains n&&vs[0]?==some (rawInt _))=true then _ else _) Q E s
          rw[if_neg (by intro h;rw[hn,Bool.false_and] at h;cases h)]
          exact zY hQ))
def Itl (K:Frg) (a:Addr):It:=
 ⟨fun i H=>∃xs x,SqL K H a xs/\xs[i]?=some x,fun i H x H'=>H'=H/\∀xs,SqL K H a xs->xs[i]?=some x,fun i H=>∃xs,SqL K H a xs/\xs.length<=i⟩
def Itt (K:Frg) (a:Addr):It:=
 ⟨fun i H=>∃xs x,SqT K H a xs/\xs[i]?=some x,fun i H x H'=>H'=H/\∀xs,SqT K H a xs->xs[i]?=some x,fun i H=>∃xs,SqT K H a xs/\xs.length<=i⟩
def Itr (lo:Int) (n:Nat):It:=⟨fun i _=>i < n,fun i H x H'=>H'=H/\x = .int (lo+i),fun i _=>n<=i⟩
theorem fY {P:Program}{w:World}{K:Frg}{tg:Expr}(a it:Addr):Turn P w K tg (Itl K a) [it] it (fun i h=>h.IsListIter it a i) where
 mem:=by simp
 obj:=fun i h st b hb=>by
   have e:b=it:=by simpa using hb
   subst e
   obtain⟨o,e,c,d⟩:=st
   exact⟨o,e,fun v z=>by rw[d] at z;cases z⟩
 keep:=fun i h h' st k=>st.at fun o e=>k it (by simp) o e
 item:=by
   intro X hP hw hK hc i pins s σ H E I hf st hg
   subst hP hw hK
   obtain⟨xs,x,hq,hx⟩:=hg
   obtain⟨its,rv,p,hz⟩:=I.list hq
   obtain⟨u,hu,ru⟩:=rv.get hx
   obtain⟨f0,f1,f2,f3,f4,f5⟩:=hf it (by simp)
   refine wpAny_pyNext_list_item st p.isList (x:=u) (by simpa using hu) fun h' st' sb=>?_
   have I1:Inv X pins σ H { s with heap:=h' }:=I.turned (t':=s.toks) (fun b o hb e=>(sb.2 b hb).trans e) f0 f1 f3 f4 f5
   obtain⟨o,e,c,d⟩:=id st'
   exact⟨u,rfl,cW (s:={ s with heap:=h' }) e c d (by decide) ⟨x,H,I1,ru,⟨rfl,fun ys hy=>by rw[I.list_inj hy hq];exact hx⟩,st',fun b hb=>(hf b hb).1⟩⟩
 done:=by
   intro X hP hw hK hc i pins s σ H E I hf st hg
   subst hP hw hK
   obtain⟨xs,hq,hx⟩:=hg
   obtain⟨its,rv,p,hz⟩:=I.list hq
   obtain⟨f0,f1,f2,f3,f4,f5⟩:=hf it (by simp)
   have hl:=rv.length
   exact wpAny_pyNext_list_end (I.ok.hd hc) st p.isList (by simp;omega) fun h' eb=>⟨rfl,I.turned (t':=s.toks) (fun b o hb e=>eb b o hb e) f0 f1 f3 f4 f5⟩
 self:=fun _ _ _ _ _ st h=>wpAny_pyIter_listiter st h
theorem aG {P:Program}{w:World}{K:Frg}{tg:Expr}(a it:Addr):Turn P w K tg (Itt K a) [it] it (fun i h=>h.IsTupleIter it a i) where
 mem:=by simp
 obj:=fun i h st b hb=>by
   have e:b=it:=by simpa using hb
   subst e
   obtain⟨o,e,c,d⟩:=st
   exact⟨o,e,fun v z=>by rw[d] at z;cases z⟩
 keep:=fun i h h' st k=>st.at fun o e=>k it (by simp) o e
 item:=by
   intro X hP hw hK hc i pins s σ H E I hf st hg
   subst hP hw hK
   obtain⟨xs,x,hq,hx⟩:=hg
   obtain⟨its,rv,p,hz⟩:=I.tuple hq
   obtain⟨u,hu,ru⟩:=rv.get hx
   obtain⟨f0,f1,f2,f3,f4,f5⟩:=hf it (by simp)
   refine wpAny_pyNext_tuple_item st (show s.heap.IsTuple a its.toArray from p) (x:=u) (by simpa using hu) fun h' st' sb=>?_
   have I1:Inv X pins σ H { s with heap:=h' }:=I.turned (t':=s.toks) (fun b o hb e=>(sb.2 b hb).trans e) f0 f1 f3 f4 f5
   obtain⟨o,e,c,d⟩:=id st'
   exact⟨u,rfl,cW (s:={ s with heap:=h' }) e c d (by decide) ⟨x,H,I1,ru,⟨rfl,fun ys hy=>by rw[I.tuple_inj hy hq];exact hx⟩,st',fun b hb=>(hf b hb).1⟩⟩
 done:=by
   intro X hP hw hK hc i pins s σ H E I hf st hg
   subst hP hw hK
   obtain⟨xs,hq,hx⟩:=hg
   obtain⟨its,rv,p,hz⟩:=I.tuple hq
   obtain⟨f0,f1,f2,f3,f4,f5⟩:=hf it (by simp)
   have hl:=rv.length
   exact wpAny_pyNext_tuple_end (I.ok.hd hc) st (show s.heap.IsTuple a its.toArray from p) (by simp;omega) fun h' eb=>⟨rfl,I.turned (t':=s.toks) (fun b o hb e=>eb b o hb e) f0 f1 f3 f4 f5⟩
 self:=fun _ _ _ _ _ st h=>wpAny_pyIter_tupleiter st h
theorem aH {P:Program}{w:World}{K:Frg}{tg:Expr}(it:Addr) (lo:Int) (n:Nat):Turn P w K tg (Itr lo n) [it] it (fun i h=>IsRangeIter h it (lo+(i:Nat)*1) ((n:Int) - (i:Nat)) 1) where
 mem:=by simp
 obj:=fun i h st b hb=>by
   have e:b=it:=by simpa using hb
   subst e
   exact⟨_,st,fun v z=>by
     have z':Data.fields _=Data.cell v:=z
     cases z'⟩
 keep:=fun i h h' st k=>k it (by simp) _ st
 item:=by
   intro X hP hw hK hc i pins s σ H E I hf st hg
   subst hP hw hK
   obtain⟨f0,f1,f2,f3,f4,f5⟩:=hf it (by simp)
   have W:=Walks.range (prog:=X.prog) (w:=X.w) (I.ok.hd hc) it lo 1 n
   refine W.item i s _ _ hg st fun v h' tk hv st' kk=>?_
   obtain⟨t,rfl⟩:=hv
   have I1:Inv X pins σ H { s with heap:=h',toks:=tk }:=I.turned (fun b o hb e=>kk b o (by simpa using hb) e) f0 f1 f3 f4 f5
   refine⟨_,rfl,cW (s:={ s with heap:=h',toks:=tk }) (n:= "range_iterator") st' rfl rfl (by decide) ⟨.int (lo+i),H,I1,⟨t,?_⟩,⟨rfl,rfl⟩,st',fun b hb=>(hf b hb).1⟩⟩
   rw[Int.mul_one]
 done:=by
   intro X hP hw hK hc i pins s σ H E I hf st hg
   subst hP hw hK
   obtain⟨f0,f1,f2,f3,f4,f5⟩:=hf it (by simp)
   exact wpAny_pyNext_range_end (I.ok.hd hc) st (by have:n<=i:=hg;omega) fun h' eb=>⟨rfl,I.turned (t':=s.toks) (fun b o hb e=>eb b o hb e) f0 f1 f3 f4 f5⟩
 self:=fun _ _ _ _ _ st h=>wpAny_pyIter_rangeiter st h
section
variable {X:Cx}{tg:Expr}
theorem j8 {pins:List (Addr×Obj)}{σ:St}{H:Hp}{s:Shared}{R:It->Hp->Prop}{E:Value->Shared->Prop}{lo hi:Int}{t u v:Tok}{tk:Nat}(I:Inv X pins σ H s) (h1 : -(2 ^ 62)<=lo) (h2:lo < 2 ^ 62) (h3 : -(2 ^ 62)<=hi) (h4:hi < 2 ^ 62)
   (q:R (Itr lo (hi - lo).toNat) H):wpAny (model X.prog X.w) X.A (pyIter (.ref s.heap.objs.size)) (PIE X pins σ tg R) E { s with heap:=s.heap.push { cls:=.type "range", data:=.fields #[.int lo t,.int hi u,.int 1 v] },toks:=tk }:=by
 refine wpAny_pyIter_range (IsRange.new ..) (small_one h1 h2 h3 h4) ?_
 have I1:Inv X pins σ H { s with heap:=s.heap.push { cls:=.type "range", data:=.fields #[.int lo t,.int hi u,.int 1 v] },toks:=tk }:=I.kept fun b o e=>zW _ e
 refine⟨(s.heap.push { cls:=.type "range", data:=.fields #[.int lo t,.int hi u,.int 1 v] }).objs.size,[(s.heap.push { cls:=.type "range", data:=.fields #[.int lo t,.int hi u,.int 1 v] }).objs.size],_,_,H,rfl,
   I1.kept (t':=tk) fun b o e=>zW _ e,aH _ lo (hi - lo).toNat,?_,fun b hb=>?_,q⟩
 · have e1:lo+((0:Nat):Int)*1=lo:=by simp
   have e2:(((hi - lo).toNat:Nat):Int) - ((0:Nat):Int)=Builtin.Range.rangeSize lo hi 1:=by rw[rangeSize_one];split <;> omega
   show IsRangeIter _ _ (lo+((0:Nat):Int)*1) ((((hi - lo).toNat:Nat):Int) - ((0:Nat):Int)) 1
   rw[e1,e2]
   exact yZ _ rfl
 · have e:b=(s.heap.push { cls:=.type "range", data:=.fields #[.int lo t,.int hi u,.int 1 v] }).objs.size:=by simpa using hb
   subst e
   exact I1.fpOk (zR _) (I1.hok.fresh (zR _))
def rY (ta:TA):TI:=fun σ H R=>ta σ H fun vs H1=>∃j:Int,vs=[.int j]/\-(2 ^ 62)<=j/\j < 2 ^ 62/\R (Itr 0 j.toNat) H1
theorem fZ {a:Expr}{ta:TA}{p pos:Pos}(hg:Gl X "range") (hm:X.mg "range"=none) (ha:PA X [a] ta) (hs:starEach [a] X.env=[(false,eval a X.env)]:=by rfl):PI X tg (.Call (.Name "range" p) [a] [] pos) (rY ta):=by
 intro pins s σ H R I h
 refine Call_ (GL I hg hm boot_range (xH (thn (ha pos pins s σ H _ I h) fun us s1 ⟨vs,H1,I1,r1,q1⟩=>?_) hs rfl))
 obtain⟨j,e,q1,q2,q⟩:=q1
 subst e
 cases r1 with
 | cons r rr=>
   cases rr
   obtain⟨t,rfl⟩:=r
   exact call_range_1 (j8 I1 (by omega) (by omega) q1 q2 (by simpa using q))
def yB (wi:TI) (g:TG) (tb:TS):TS:=fun D σ H=>wi σ H fun J H1=>∃W:Nat->Nat->St->Hp->Prop,(∃m,W 0 m σ H1)/\∀i m σ H,W i m σ H ->
 (J.stop i H/\D.nx σ H)∨(J.go i H/\∃N:St->Hp->Prop,(∀σ' H',N σ' H'->∃m',m' < m/\W (i+1) m' σ' H')/\∀x H',J.yld i H x H'->g x σ H' fun σ2 H2=>tb { D with nx:=N,ct:=N,bk:=D.nx } σ2 H2)
def QA (fp:List Addr) (h:Heap):List (Addr×Obj):=fp.filterMap fun b=>(h.get? b).map fun o=>(b,o)
theorem HM {fp:List Addr}{h:Heap}{b:Addr}{o:Obj}(hb:b∈fp) (e:h.get? b=some o):(b,o)∈QA fp h:=List.mem_filterMap.mpr ⟨b,hb,by rw[e];rfl⟩
theorem g9 {fp:List Addr}{h:Heap}{p:Addr×Obj}(hp:p∈QA fp h):p.1∈fp/\h.get? p.1=some p.2:=by
 obtain⟨b,hb,e⟩:=List.mem_filterMap.mp hp
 cases q:h.get? b with
 | none=>rw[q] at e;cases e
 | some o=>
   rw[q] at e
   have e':(b,o)=p:=Option.some.inj e
   subst e'
   exact⟨hb,q⟩
theorem Inv.pinned {pins:List (Addr×Obj)}{σ:St}{H:Hp}{s:Shared}{fp:List Addr}(I:Inv X pins σ H s) (hf:∀b∈fp,LN X pins H b) (ho:∀b∈fp,∃o,s.heap.get? b=some o/\∀v,o.data≠.cell v):Inv X (pins++QA fp s.heap) σ H s:=
 I.pins_of fun p hp=>(yW.mp hp).elim (fun z=>I.pin p (zB _ z)) fun z=>by
   obtain⟨hb,e⟩:=g9 z
   obtain⟨f0,f1,f2,_⟩:=hf p.1 hb
   obtain⟨o,e',d⟩:=ho p.1 hb
   rw[e] at e';cases e'
   exact⟨e,f0,f1,f2,d⟩
theorem Inv.unpinned {pins pl:List (Addr×Obj)}{σ:St}{H:Hp}{s:Shared}(I:Inv X (pins++pl) σ H s):Inv X pins σ H s:=I.pins_of fun p hp=>I.pin p (zB _ (List.mem_append_left _ hp))
theorem tS {iter:Expr}{body:List Stmt}{wi:TI}{g:TG}{tb:TS}{pos:Pos}(hp:PassesOwn (model X.prog X.w) X.A X.env X.xe) (hc:X.calm=true) (hi:PI X tg iter wi) (hg:PG X tg g) (hb:PSs X body tb)
   (hs:∀x,foldedSetIterable iter X.env x=pure x:=by intro _;rfl):PS X (.For tg iter body [] pos) (yB wi g tb):=by
 intro pins s σ H D I h
 refine wpAny_For (thn (hi pins s σ H _ I h) fun v s1 h1=>thn h1 fun itv s2 h2=>?_) hs
 obtain⟨it,fp,tn,J,H2,e,I2,T,st2,f2,W,⟨m0,w0⟩,turn⟩:=h2
 subst e
 have stat:∀{H':Hp},(∀b∈fp,H' b=none)->∀b∈fp,LN X pins H' b:=fun hn b hb=>⟨hn b hb,(f2 b hb).2⟩
 refine codeAny_forLoop_any (fun n s'=>∃i σ' H',Inv X pins σ' H' s'/\tn i s'.heap/\(∀b∈fp,H' b=none)/\W i n σ' H') ?_ m0 ⟨0,σ,H2,I2,st2,fun b hb=>(f2 b hb).1,w0⟩
 rintro n s3 ⟨i,σ3,H3,I3,st3,fr3,w3⟩
 rcases turn i n σ3 H3 w3 with ⟨stop,qn⟩ | ⟨go,N,hN,step⟩
 · refine wpAny_passesOwn hp (thn (T.done X rfl rfl rfl hc i pins s3 σ3 H3 X.xe I3 (stat fr3) st3 stop) fun r s4 ⟨hr,I4⟩=>?_)
   subst hr
   exact wpAny_execs_nil ⟨σ3,H3,I4,qn⟩
 · refine wpAny_passesOwn hp (thn (T.item X rfl rfl rfl hc i pins s3 σ3 H3 X.xe I3 (stat fr3) st3 go) fun r s4 ⟨u,hr,h4⟩=>?_)
   subst hr
   refine wpAny_passesOwn hp (thn h4 fun _ s5 ⟨x,H5,I5,r5,y5,st5,fr5⟩=>?_)
   have I5':=I5.pinned (stat fr5) (T.obj _ _ st5)
   refine wpAny_passesOwn hp (thn (hg _ s5 σ3 H5 x u _ I5' r5 (step x H5 y5)) fun _ s6 ⟨σ6,H6,I6,q6⟩=>?_)
   refine wpAny_passesOwn hp (thn (hb _ s6 σ6 H6 _ I6 q6) fun f s7 q7=>?_)
   have again:∀{σ7:St}{H7:Hp},Inv X (pins++QA fp s5.heap) σ7 H7 s7->N σ7 H7->∃m,m < n/\∃i σ' H',Inv X pins σ' H' s7/\tn i s7.heap/\(∀b∈fp,H' b=none)/\W i m σ' H':=fun {σ7 H7} I7 n7=>by
     obtain⟨m',hm,w7⟩:=hN σ7 H7 n7
     refine⟨m',hm,i+1,σ7,H7,I7.unpinned,T.keep _ _ _ st5 fun b hb o e=>(I7.pin (b,o) (zB _ (zB _ (HM hb e)))).1,fun b hb=>?_,w7⟩
     obtain⟨o,e,d⟩:=T.obj _ _ st5 b hb
     exact(I7.pin (b,o) (zB _ (zB _ (HM hb e)))).2.1
   cases f with
   | next=>obtain⟨σ7,H7,I7,n7⟩:=q7;exact again I7 n7
   | cont=>obtain⟨σ7,H7,I7,n7⟩:=q7;exact again I7 n7
   | brk=>obtain⟨σ7,H7,I7,q7⟩:=q7;exact⟨σ7,H7,I7.unpinned,q7⟩
   | ret v=>obtain⟨x7,σ7,H7,I7,r7,q7⟩:=q7;exact⟨x7,σ7,H7,I7.unpinned,r7,q7⟩
end
abbrev R2:=V->V->Hp->VK->Prop
def OpR (X:Cx) (f:Value->Value->Sem Value) (r:R2):Prop:=
 ∀(pins:List (Addr×Obj)) (s:Shared) (σ:St) (H:Hp) (x y:V) (v u:Value) (Q:VK),Inv X pins σ H s->RelV x v->RelV y u->r x y H Q ->
   wpAny (model X.prog X.w) X.A (f v u) (EP X pins σ Q) X.xe s
def UnR (X:Cx) (f:Value->Sem Value) (r:V->Hp->VK->Prop):Prop:=
 ∀(pins:List (Addr×Obj)) (s:Shared) (σ:St) (H:Hp) (x:V) (v:Value) (Q:VK),Inv X pins σ H s->RelV x v->r x H Q ->
   wpAny (model X.prog X.w) X.A (f v) (EP X pins σ Q) X.xe s
def BQ (X:Cx) (f:Value) (r:List V->Hp->VK->Prop):Prop:=
 ∀(pins:List (Addr×Obj)) (s:Shared) (σ:St) (H:Hp) (xs:List V) (us:List Value) (Q:VK),Inv X pins σ H s->Vals xs us->r xs H Q ->
   wpAny (model X.prog X.w) X.A (call f us) (EP X pins σ Q) X.xe s
def tOp (r:R2) (ta tb:TE):TE:=fun σ H Q=>ta σ H fun x H1=>tb σ H1 fun y H2=>r x y H2 Q
def tUn (r:V->Hp->VK->Prop) (ta:TE):TE:=fun σ H Q=>ta σ H fun x H1=>r x H1 Q
def rI (C:Int->Int->Prop) (g:Int->Int->V):R2:=fun x y H Q=>∃i j,x = .int i/\y = .int j/\C i j/\Q (g i j) H
def rI0 (g:Int->Int->V):R2:=fun x y H Q=>∃i j,x = .int i/\y = .int j/\Q (g i j) H
def rU (g:Int->V):V->Hp->VK->Prop:=fun x H Q=>∃i,x = .int i/\Q (g i) H
section
variable {X:Cx}{a b c:Expr}{ta tb tc:TE}{pos:Pos}
theorem tT (ha:PE X a ta) (hb:PE X b tb) {pins:List (Addr×Obj)}{s:Shared}{σ:St}{H:Hp}{R:V->V->Hp->Prop}(I:Inv X pins σ H s)
   (h:ta σ H fun x H1=>tb σ H1 fun y H2=>R x y H2) {Q:Value->Shared->Prop}{f:Value->Value->Sem Value}
   (hf:∀v u s2 x y H2,Inv X pins σ H2 s2->RelV x v->RelV y u->R x y H2->wpAny (model X.prog X.w) X.A (f v u) Q X.xe s2) :
   wpAny (model X.prog X.w) X.A (eval a X.env) (fun v s₁=>wpAny (model X.prog X.w) X.A (eval b X.env) (fun u s₂=>wpAny (model X.prog X.w) X.A (f v u) Q X.xe s₂) X.xe s₁) X.xe s:=by
 refine thn (ha pins s σ H _ I h) fun v s1 ⟨x,H1,I1,r1,q1⟩=>?_
 refine thn (hb pins s1 σ H1 _ I1 q1) fun u s2 ⟨y,H2,I2,r2,q2⟩=>?_
 exact hf v u s2 x y H2 I2 r1 r2 q2
theorem OF {op:Operator}{r:R2}(ho:OpR X (binaryOp op) r) (ha:PE X a ta) (hb:PE X b tb):PE X (.BinOp a op b pos) (tOp r ta tb):=by
 intro pins s σ H Q I h
 exact wpAny_BinOp (tT ha hb I h fun v u s2 x y H2 I2 rx ry q=>ho pins s2 σ H2 x y v u Q I2 rx ry q)
theorem yC {op:UnaryOp}{r:V->Hp->VK->Prop}(ho:UnR X (unaryOp op) r) (ha:PE X a ta):PE X (.UnaryOp op a pos) (tUn r ta):=by
 intro pins s σ H Q I h
 exact UnaryOp_ (thn (ha pins s σ H _ I h) fun v s1 ⟨x,H1,I1,r1,q1⟩=>ho pins s1 σ H1 x v Q I1 r1 q1)
theorem opI {f:Value->Value->Sem Value}{C:Int->Int->Prop}{g:Int->Int->Int}
   (rule:∀(i j:Int) (t u:Tok) (s:Shared) (Q:Value->Shared->Prop) (E:Value->Shared->Prop),C i j->Q (.int (g i j) s.toks) { s with toks:=s.toks+1 }->wpAny (model X.prog X.w) X.A (f (.int i t) (.int j u)) Q E s) :
   OpR X f (rI C fun i j=>.int (g i j)):=by
 intro pins s σ H x y v u Q I rx ry h
 obtain⟨i,j,rfl,rfl,hc,q⟩:=h
 obtain⟨t,rfl⟩:=rx
 obtain⟨t',rfl⟩:=ry
 exact rule i j t t' s _ _ hc ⟨.int (g i j),H,I.tok _,⟨_,rfl⟩,q⟩
theorem yE {f:Value->Value->Sem Value}{g:Int->Int->Int}
   (rule:∀(i j:Int) (t u:Tok) (s:Shared) (Q:Value->Shared->Prop) (E:Value->Shared->Prop),Q (.int (g i j) s.toks) { s with toks:=s.toks+1 }->wpAny (model X.prog X.w) X.A (f (.int i t) (.int j u)) Q E s) :
   OpR X f (rI0 fun i j=>.int (g i j)):=by
 intro pins s σ H x y v u Q I rx ry h
 obtain⟨i,j,rfl,rfl,q⟩:=h
 obtain⟨t,rfl⟩:=rx
 obtain⟨t',rfl⟩:=ry
 exact rule i j t t' s _ _ ⟨.int (g i j),H,I.tok _,⟨_,rfl⟩,q⟩
theorem nY {f:Value->Value->Sem Value}{g:Int->Int->Bool}
   (rule:∀(i j:Int) (t u:Tok) (s:Shared) (Q:Value->Shared->Prop) (E:Value->Shared->Prop),Q (.bool (g i j)) s->wpAny (model X.prog X.w) X.A (f (.int i t) (.int j u)) Q E s) :
   OpR X f (rI0 fun i j=>.bl (g i j)):=by
 intro pins s σ H x y v u Q I rx ry h
 obtain⟨i,j,rfl,rfl,q⟩:=h
 obtain⟨t,rfl⟩:=rx
 obtain⟨t',rfl⟩:=ry
 exact rule i j t t' s _ _ ⟨.bl (g i j),H,I,rfl,q⟩
def yK (i j:Int):Prop:=0 < j/\j < 1073741824
def yO (i j:Int):Prop:=0<=j/\j<=1000000/\i.natAbs < 2 ^ 64
def CMul (i j:Int):Prop:=(-(2 ^ 64) < i/\i < 2 ^ 64)∨(-(2 ^ 64) < j/\j < 2 ^ 64)
theorem CMul.ok {i j:Int}(h:CMul i j):IntMulOk i j:=by
 rcases h with ⟨h1,h2⟩ | ⟨h1,h2⟩
 · exact .of_left (intBits_le_64 h1 h2)
 · exact .of_right (intBits_le_64 h1 h2)
theorem tU:OpR X (binaryOp .Add) (rI0 fun i j=>.int (i+j)):=yE fun _ _ _ _ _ _ _ q=>add_int q
theorem tV:OpR X (binaryOp .Sub) (rI0 fun i j=>.int (i - j)):=yE fun _ _ _ _ _ _ _ q=>sub_int q
theorem tW:OpR X (binaryOp .Mult) (rI CMul fun i j=>.int (i*j)):=opI fun _ _ _ _ _ _ _ hc q=>mul_int q hc.ok
theorem tX:OpR X (binaryOp .Mod) (rI (fun _ j=>0 < j) fun i j=>.int (i % j)):=opI fun i j _ _ _ _ _ hc q=>by
 have h1:(0:Int) < j:=hc
 exact mod_int' (by omega) (by rw[Int.fmod_eq_emod_of_nonneg i (by omega)];exact q)
theorem tY:OpR X (binaryOp .Pow) (rI yO fun i j=>.int (i ^ j.toNat)):=opI fun _ _ _ _ _ _ _ hc q=>pow_int_small hc.1 hc.2.1 hc.2.2 q
theorem unI {f:Value->Sem Value}{g:Int->Int}
   (rule:∀(i:Int) (t:Tok) (s:Shared) (Q:Value->Shared->Prop) (E:Value->Shared->Prop),Q (.int (g i) s.toks) { s with toks:=s.toks+1 }->wpAny (model X.prog X.w) X.A (f (.int i t)) Q E s) :
   UnR X f (rU fun i=>.int (g i)):=by
 intro pins s σ H x v Q I rx h
 obtain⟨i,rfl,q⟩:=h
 obtain⟨t,rfl⟩:=rx
 exact rule i t s _ _ ⟨.int (g i),H,I.tok _,⟨_,rfl⟩,q⟩
theorem tZ:UnR X (unaryOp .USub) (rU fun i=>.int (-i)):=unI fun _ _ _ _ _ q=>neg_int q
theorem VC {pins:List (Addr×Obj)}{σ:St}{H:Hp}{s:Shared}{Q:VK}{k k':Bool}(I:Inv X pins σ H s) (q:Q (.bl k) H) (e:k=k'):EP X pins σ Q (.bool k') s:=by
 subst e
 exact⟨.bl k,H,I,rfl,q⟩
theorem yS:OpR X (compareOp .Lt) (rI0 fun i j=>.bl (decide (i < j))):=nY fun _ _ _ _ _ _ _ q=>lt_int q
theorem XH:OpR X (compareOp .LtE) (rI0 fun i j=>.bl (decide (i<=j))):=nY fun _ _ _ _ _ _ _ q=>le_int q
theorem rZ:OpR X (compareOp .Gt) (rI0 fun i j=>.bl (decide (j < i))):=nY fun _ _ _ _ _ _ _ q=>gt_int q
theorem sC:OpR X (compareOp .GtE) (rI0 fun i j=>.bl (decide (j<=i))):=nY fun _ _ _ _ _ _ _ q=>ge_int q
theorem gA:OpR X (compareOp .Lt) (fun x y H Q=>∃i j,x = .str i/\y = .str j/\Q (.bl (decide (i.cps.toList < j.cps.toList))) H):=by
 intro pins s σ H x y v u Q I rx ry h
 obtain⟨i,j,rfl,rfl,q⟩:=h
 obtain⟨t,rfl⟩:=rx
 obtain⟨t',rfl⟩:=ry
 exact lt_str (VC I q rfl)
theorem gB:OpR X (compareOp .In) (fun x y H Q=>∃i j,x = .str i/\y = .str j/\Q (.bl (!(a6Q j i 0 j.length 1).isEmpty)) H):=by
 intro pins s σ H x y v u Q I rx ry h
 obtain⟨i,j,rfl,rfl,q⟩:=h
 obtain⟨t,rfl⟩:=rx
 obtain⟨t',rfl⟩:=ry
 exact in_str (VC I q rfl)
theorem j9:OpR X (compareOp .Is) (fun x y H Q=>y = .non/\Q (.bl (decide (x = .non))) H):=by
 intro pins s σ H x y v u Q I rx ry h
 obtain⟨rfl,q⟩:=h
 cases ry
 refine is_none_gen (VC I q ?_)
 cases x <;> first
   | (cases rx;rfl)
   | (obtain⟨t,rfl⟩:=rx;rfl)
theorem nZ:OpR X (compareOp .IsNot) (fun x y H Q=>y = .non/\Q (.bl (!decide (x = .non))) H):=by
 intro pins s σ H x y v u Q I rx ry h
 obtain⟨rfl,q⟩:=h
 cases ry
 refine isnot_none_gen (VC I q ?_)
 cases x <;> first
   | (cases rx;rfl)
   | (obtain⟨t,rfl⟩:=rx;rfl)
theorem OpR.or {f:Value->Value->Sem Value}{r r':R2}(h:OpR X f r) (h':OpR X f r'):OpR X f (fun x y H Q=>r x y H Q∨r' x y H Q):=by
 intro pins s σ H x y v u Q I rx ry q
 rcases q with q | q
 · exact h pins s σ H x y v u Q I rx ry q
 · exact h' pins s σ H x y v u Q I rx ry q
theorem BZ (b:Expr) {op:CmpOp}(h:op≠.In:=by decide) (h2:op≠.NotIn:=by decide):behindInMarks op b=false:=by
 have e1:(op==CmpOp.In)=false:=by cases op <;> first | rfl | exact absurd rfl h
 have e2:(op==CmpOp.NotIn)=false:=by cases op <;> first | rfl | exact absurd rfl h2
 cases b <;> simp[behindInMarks,e1,e2]
theorem E5 {op:CmpOp}{r:R2}(ho:OpR X (compareOp op) r) (ha:PE X a ta) (hb:PE X b tb) (hm:behindInMarks op b=false):PE X (.Compare a [op] [b] pos) (tOp r ta tb):=by
 intro pins s σ H Q I h
 exact wpAny_Compare1 (tT ha hb I h fun v u s2 x y H2 I2 rx ry q=>ho pins s2 σ H2 x y v u Q I2 rx ry q) hm
def jA (t:TE):TT:=fun σ H Q=>t σ H fun x H'=>∃k,x = .bl k/\Q k H'
theorem CG {op:CmpOp}{r:R2}(ho:OpR X (compareOp op) r) (ha:PE X a ta) (hb:PE X b tb) (hm:behindInMarks op b=false):PT X (.Compare a [op] [b] pos) (jA (tOp r ta tb)):=by
 intro pins s σ H Q I h
 refine wpAny_isTrue_Compare1 (thn (ha pins s σ H _ I h) fun v s1 ⟨x,H1,I1,r1,q1⟩=>thn (hb pins s1 σ H1 _ I1 q1) fun u s2 ⟨y,H2,I2,r2,q2⟩=>
   thn (ho pins s2 σ H2 x y v u _ I2 r1 r2 q2) fun c s3 ⟨z,H3,I3,r3,k,e,q3⟩=>?_) hm
 subst e
 cases r3
 exact wpAny_truthy_bool ⟨H3,I3,q3⟩
def aI (r r':R2) (ta tb tc:TE):TE:=fun σ H Q=>ta σ H fun x H1=>tb σ H1 fun y H2=>r x y H2 fun z H3=>∃k,z = .bl k /\
 (if k=true then tc σ H3 fun w' H4=>r' y w' H4 Q else Q (.bl false) H3)
theorem jB {op op':CmpOp}{r r':R2}(ho:OpR X (compareOp op) r) (ho':OpR X (compareOp op') r') (ha:PE X a ta) (hb:PE X b tb) (hc:PE X c tc)
   (hm:lastMarks [op,op'] [b,c]=false:=by with_unfolding_all rfl):PE X (.Compare a [op,op'] [b,c] pos) (aI r r' ta tb tc):=by
 intro pins s σ H Q I h
 refine Compare_chain (thn (ha pins s σ H _ I h) fun v s1 ⟨x,H1,I1,r1,q1⟩=>chain_link (thn (hb pins s1 σ H1 _ I1 q1) fun u s2 ⟨y,H2,I2,r2,q2⟩=>
   thn (ho pins s2 σ H2 x y v u _ I2 r1 r2 q2) fun d s3 ⟨z,H3,I3,r3,k,e,q3⟩=>?_)) hm
 subst e
 cases r3
 refine wpAny_truthy_bool ?_
 cases k with
 | false=>exact ite_ff ⟨.bl false,H3,I3,rfl,q3⟩
 | true=>exact ite_tt (chain_last (thn (hc pins s3 σ H3 _ I3 q3) fun w' s4 ⟨z',H4,I4,r4,q4⟩=>ho' pins s4 σ H4 y z' u w' Q I4 r2 r4 q4))
theorem jC {op op':CmpOp}{r r':R2}(ho:OpR X (compareOp op) r) (ho':OpR X (compareOp op') r') (ha:PE X a ta) (hb:PE X b tb) (hc:PE X c tc)
   (hm:lastMarks [op,op'] [b,c]=false:=by with_unfolding_all rfl):PT X (.Compare a [op,op'] [b,c] pos) (jA (aI r r' ta tb tc)):=by
 intro pins s σ H Q I h
 refine isTrue_chain (thn (ha pins s σ H _ I h) fun v s1 ⟨x,H1,I1,r1,q1⟩=>test_link (thn (hb pins s1 σ H1 _ I1 q1) fun u s2 ⟨y,H2,I2,r2,q2⟩=>
   thn (ho pins s2 σ H2 x y v u _ I2 r1 r2 q2) fun d s3 ⟨z,H3,I3,r3,k,e,q3⟩=>?_)) hm
 subst e
 cases r3
 refine wpAny_truthy_bool ?_
 cases k with
 | false=>
   obtain⟨k',e',q'⟩:=q3
   cases e'
   exact ite_ff ⟨H3,I3,q'⟩
 | true=>
   refine ite_tt (test_last (thn (hc pins s3 σ H3 _ I3 q3) fun w' s4 ⟨z',H4,I4,r4,q4⟩=>thn (ho' pins s4 σ H4 y z' u w' _ I4 r2 r4 q4) fun d' s5 ⟨z2,H5,I5,r5,k2,e2,q5⟩=>?_))
   subst e2
   cases r5
   exact wpAny_truthy_bool ⟨H5,I5,q5⟩
theorem QC:(sizeLine:Nat) < 2 ^ 63:=by rw[sizeLine_eq];decide
theorem aJ:OpR X (binaryOp .Add) (fun x y H Q=>∃i j,x = .str i/\y = .str j/\i.length+j.length<=sizeLine/\Q (.str (i++j)) H):=by
 intro pins s σ H x y v u Q I rx ry h
 obtain⟨i,j,rfl,rfl,hz,q⟩:=h
 obtain⟨t,rfl⟩:=rx
 obtain⟨t',rfl⟩:=ry
 exact add_str (fun t' tk=>⟨.str (i++j),H,I.tok _,⟨_,rfl⟩,q⟩) hz
theorem D0 {x:V}{us:List Value}(r:Vals [x] us):∃u,us=[u]/\RelV x u:=by
 cases r with
 | cons r1 r2=>cases r2;exact⟨_,rfl,r1⟩
theorem sD {x y:V}{us:List Value}(r:Vals [x,y] us):∃u w',us=[u,w']/\RelV x u/\RelV y w':=by
 cases r with
 | cons r1 r2=>
   cases r2 with
   | cons r3 r4=>cases r4;exact⟨_,_,rfl,r1,r3⟩
theorem gC:BQ X (.type "int") (fun xs H Q=>(∃i,xs=[.int i]/\Q (.int i) H)∨∃k,xs=[.bl k]/\Q (.int (if k then 1 else 0)) H):=by
 intro pins s σ H xs us Q I r h
 rcases h with ⟨i,rfl,q⟩ | ⟨k,rfl,q⟩
 · obtain⟨u,rfl,t,rfl⟩:=D0 r
   exact call_int_int ⟨.int i,H,I,⟨_,rfl⟩,q⟩
 · obtain⟨u,rfl,r1⟩:=D0 r
   cases r1
   exact call_int_bool ⟨.int (if k then 1 else 0),H,I.tok _,⟨_,rfl⟩,q⟩
theorem ME:BQ X (.type "str") (fun xs H Q=>∃i,xs=[.int i]/\i.natAbs.log2 < 1920/\Q (.str (toString i)) H):=by
 intro pins s σ H xs us Q I r h
 obtain⟨i,rfl,hz,q⟩:=h
 obtain⟨u,rfl,t,rfl⟩:=D0 r
 exact PySem.P.str_of_int hz ⟨.str _,H,I.tok _,⟨_,rfl⟩,q⟩
def jD (K:Frg) (x:V) (H:Hp) (n:Nat):Prop:=
 match x with
 | .str y=>y.length<=sizeLine/\n=y.length
 | .byt y=>y.size<=sizeLine/\n=y.size
 | .ref p=>(∃xs,SqL K H p xs/\n=xs.length)∨∃xs,SqT K H p xs/\n=xs.length
 | _=>False
theorem jE:BQ X (.builtin "len") (fun xs H Q=>∃x n,xs=[x]/\jD X.K x H n/\Q (.int n) H):=by
 intro pins s σ H xs us Q I r h
 obtain⟨x,n,rfl,e,q⟩:=h
 obtain⟨u,rfl,rx⟩:=D0 r
 have hl:=QC
 have hs:sizeLine=16777216:=sizeLine_eq
 cases x with
 | str y=>
   obtain⟨t,rfl⟩:=rx
   obtain⟨hy,e'⟩:y.length<=sizeLine/\n=y.length:=e
   subst e'
   exact len_str (by omega) ⟨.int _,H,I.tok _,⟨_,rfl⟩,q⟩
 | byt y=>
   obtain⟨t,rfl⟩:=rx
   obtain⟨hy,e'⟩:y.size<=sizeLine/\n=y.size:=e
   subst e'
   exact PySem.W.len_bytes (by omega) ⟨.int _,H,I.tok _,⟨_,rfl⟩,q⟩
 | ref p=>
   cases rx
   have e':(∃xs,SqL X.K H p xs/\n=xs.length)∨∃xs,SqT X.K H p xs/\n=xs.length:=e
   rcases e' with ⟨xs,hx,e'⟩ | ⟨xs,hx,e'⟩
   · subst e'
     obtain⟨its,r',pl,hz⟩:=I.list hx
     have hlen:=r'.length
     exact Calls.call_len_list pl.isList (by simp only[zJ];omega) ⟨.int xs.length,H,I.tok _,⟨_,by simp only[zJ];rw[hlen]⟩,q⟩
   · subst e'
     obtain⟨its,r',pl,hz⟩:=I.tuple hx
     have hlen:=r'.length
     exact len_tuple pl (by simp only[zJ];omega) ⟨.int xs.length,H,I.tok _,⟨_,by simp only[zJ];rw[hlen]⟩,q⟩
 | _=>exact(show False from e).elim
theorem XJ:BQ X (.builtin "divmod") (fun xs H Q=>∃i j,xs=[.int i,.int j]/\yK i j/\∀p,H p=none->Q (.ref p) (upd H p (.tup [.int (i/j),.int (i % j)]))):=by
 intro pins s σ H xs us Q I r h
 obtain⟨i,j,rfl,⟨h1,h2⟩,q⟩:=h
 obtain⟨u,w',rfl,⟨t,rfl⟩,⟨t',rfl⟩⟩:=sD r
 refine divmod_int (by omega) ?_ (.inl (PyProof.noPylong_small (by omega)))
 rw[Int.fdiv_eq_ediv_of_nonneg i (by omega),Int.fmod_eq_emod_of_nonneg i (by omega)]
 have hn:H s.heap.objs.size=none:=I.hok.fresh (zR _)
 refine⟨.ref s.heap.objs.size,_,?_,rfl,q _ hn⟩
 refine I.laid (fun b o e=>zW _ e) (zR _) ⟨by simp only[yR,a8X];rw[sizeLine_eq];decide,[.int (i/j) s.toks,.int (i % j) (s.toks+1)],.cons ⟨_,rfl⟩ (.cons ⟨_,rfl⟩ .nil),?_⟩
 exact⟨_,yZ s.heap rfl,rfl,0,rfl⟩
end
structure ObjM (h:Heap) (x dx C:Addr) (mA:Str->Option Value):Prop where
 obj:h.get? x=some (PySem.W.instObj C dx)
 ns:h.Ns1 dx mA
 ne:dx≠x
theorem gD {h:Heap}{dx:Addr}{mA:Str->Option Value}(n:h.Ns1 dx mA):∃od,h.get? dx=some od/\∀name,PySem.W.lookIn name od=some (mA name):=by
 obtain⟨o,es,ep,ho,hd,hk,_,hm⟩:=n
 refine⟨o,ho,fun name=>?_⟩
 have e:=hm name
 unfold nsFind findBy at e
 rw[← Array.find?_toList] at e
 unfold PySem.W.lookIn
 rw[hd]
 dsimp only
 split
 · rename_i y q
   rw[q] at e
   exact congrArg some e
 · rename_i q
   rw[q] at e
   have a:es.toList.any (·.refKey)=false:=by
     rw[c1K]
     intro y hy
     obtain⟨z,t,hkey⟩:=hk y (Array.mem_toList_iff.mp hy)
     simp[DictEntry.refKey,hkey]
   have a':¬es.toList.any (·.refKey)=true:=by rw[a];exact nft
   rw[if_neg a']
   exact congrArg some e
theorem ObjM.look {h:Heap}{x dx C:Addr}{mA:Str->Option Value}(I:ObjM h x dx C mA):∃od,PySem.W.InstAt h x (PySem.W.instObj C dx) C (some od)/\∀name,PySem.W.lookIn name od=some (mA name):=
 let ⟨od,ho,hl⟩:=gD I.ns
 ⟨od,⟨I.obj,rfl,rfl,ho⟩,hl⟩
theorem RelO.some_of {v:V}{o:Option Value}(r:RelO (some v) o):∃u,o=some u/\RelV v u:=by
 cases o with
 | none=>exact(show False from r).elim
 | some u=>exact⟨u,rfl,r⟩
section
variable {P:Program}{w:World}{H H':Hp}{h h':Heap}{a C dx:Addr}{fs fs':List (Str×V)}
theorem o0 (hok:HOk P w H h) (e:H a=some (.ins C dx fs)):∃mA,ObjM h a dx C mA/\(∀f,RelO (fs.lookup f) (mA f))/\PySem.Within mA (fs.map (·.1))/\fs.length<=1000/\H dx=some (.own a):=by
 obtain⟨d,z,ne,ob,mA,n,r,q⟩:=(show ObjOk P w H h a (.ins C dx fs) from hok a _ e)
 exact⟨mA,⟨ob,n,ne⟩,r,q,z,d⟩
end
structure Cls (K:Frg) (C:Addr):Prop where
 pg:PySem.W.plainGet K C Str.empty=true
 hd:PySem.W.hasDictIn K C=true
 po:PySem.W.plainOver K C=true
 sa:PySem.W.findIn K (.ref C) "__setattr__"=some (some (.builtin "object.__setattr__"))
theorem Cls.get {K:Frg}{C:Addr}(c:Cls K C) (f:Str):PySem.W.plainGet K C f=true:=c.pg
section
variable {X:Cx}{pins:List (Addr×Obj)}{σ:St}{H:Hp}{s:Shared}{A:Around}{E:Value->Shared->Prop}{Q:Value->Shared->Prop}{c:Value}{b:Bool}
inductive TyOf (K:Frg) (H:Hp):V->Value->Prop where
 | non:TyOf K H .non (.type "NoneType")
 | bl (x:Bool):TyOf K H (.bl x) (.type "bool")
 | int (i:Int):TyOf K H (.int i) (.type "int")
 | str (x:Str):TyOf K H (.str x) (.type "str")
 | flt (x:UInt64):TyOf K H (.flt x) (.type "float")
 | lst {a:Addr}{xs:List V}(e:H a=some (.lst xs)):TyOf K H (.ref a) (.type "list")
 | frz {a:Addr}{o:Obj}{xs:List V}(e:H a=some (.frz o (.lst xs))):TyOf K H (.ref a) (.type "list")
 | tup {a:Addr}{xs:List V}(e:H a=some (.tup xs)):TyOf K H (.ref a) (.type "tuple")
 | dK {a:Addr}{kvs:List (Key×V)}(e:H a=some (.dK kvs)):TyOf K H (.ref a) (.type "dict")
 | dT {a:Addr}{kvs:List (List Key×V)}(e:H a=some (.dT kvs)):TyOf K H (.ref a) (.type "dict")
 | ins {a C dx:Addr}{fs:List (Str×V)}(e:H a=some (.ins C dx fs)) (cl:Cls K C) (ha:PySem.W.findIn K (.ref C) "__class__"=some (some (.builtin "object.__class__")))
     (hn:PySem.W.specialIn K (.builtin "object.__class__") "__get__"=some (some (.builtin "getset_descriptor.__get__"))) (htk:PySem.W.takesIn K (.builtin "object.__class__")=some true)
     (hm:PySem.W.mroIn K C (.type "object")=some true):TyOf K H (.ref a) (.ref C)
theorem GS {x:V}{u t:Value}(I:Inv X pins σ H s) (rx:RelV x u) (ty:TyOf X.K H x t) (e:PySem.W.kitOne X.K t c=some b) (h:∀tk,Q (.bool b) { s with toks:=tk }) :
   wpAny (model X.prog X.w) A (call (.builtin "isinstance") [u,c]) Q E s:=by
 cases ty with
 | non=>cases (show u=a4Q from rx);exact a2V PySem.W.kitx_none I.kIn a8W e (fun z=>nomatch z) h
 | bl y=>cases (show u=Value.bool y from rx);exact a2V PySem.W.kitx_bool I.kIn a8W e (fun z=>nomatch z) h
 | int i=>obtain⟨t,q⟩:=(show ∃t,u=Value.int i t from rx);cases q;exact a2V PySem.W.kitx_int I.kIn a8W e (fun z=>nomatch z) h
 | str y=>obtain⟨t,q⟩:=(show ∃t,u=b8Z y t from rx);cases q;exact a2V PySem.W.kitx_str I.kIn a8W e (fun z=>nomatch z) h
 | flt y=>obtain⟨t,q⟩:=(show ∃t,u=Value.float y t from rx);cases q;exact a2V PySem.W.kitx_float I.kIn a8W e (fun z=>nomatch z) h
 | @lst a xs ea=>
   cases (show u=a0Z a from rx)
   obtain⟨_,_,n,_,h1⟩:=(show ObjOk X.prog X.w H s.heap a (.lst xs) from I.hok a _ ea)
   exact a2V PySem.W.kitx_list I.kIn ⟨_,h1,rfl⟩ e (fun z=>nomatch z) h
 | @frz a ob xs ea=>
   cases (show u=a0Z a from rx)
   obtain⟨_,_,_,n,_,h1⟩:=(show ObjOk X.prog X.w H s.heap a (.frz ob (.lst xs)) from I.hok a _ ea)
   exact a2V PySem.W.kitx_list I.kIn ⟨_,h1,rfl⟩ e (fun z=>nomatch z) h
 | @tup a xs ea=>
   cases (show u=a0Z a from rx)
   obtain⟨_,_,_,p⟩:=(show ObjOk X.prog X.w H s.heap a (.tup xs) from I.hok a _ ea)
   obtain⟨o,h1,h2,_⟩:=p
   exact a2V PySem.W.kitx_tuple I.kIn ⟨o,h1,h2⟩ e (fun z=>nomatch z) h
 | @dK a kvs ea=>
   cases (show u=a0Z a from rx)
   obtain⟨_,_,vs,_,p⟩:=(show ObjOk X.prog X.w H s.heap a (.dK kvs) from I.hok a _ ea)
   obtain⟨o,es,ep,h1,h2,_⟩:=p
   exact a2V PySem.W.kitx_dict I.kIn ⟨o,h1,h2.1⟩ e (fun z=>nomatch z) h
 | @dT a kvs ea=>
   cases (show u=a0Z a from rx)
   obtain⟨_,_,xs,_,o,es,ep,h1,h2,_⟩:=(show ObjOk X.prog X.w H s.heap a (.dT kvs) from I.hok a _ ea)
   exact a2V PySem.W.kitx_dict I.kIn ⟨o,h1,h2.1⟩ e (fun z=>nomatch z) h
 | @ins a C dx fs ea cl ha hn htk hm=>
   cases (show u=a0Z a from rx)
   obtain⟨mA,O,_⟩:=o0 I.hok ea
   obtain⟨od,J,_⟩:=O.look
   exact a2V (PySem.W.kitx_own (cl.get _) cl.hd ha hn htk hm) I.kIn J e (fun z=>nomatch z) h
end
structure Room (k:Nat) (A:Around):Prop where
 hd:A.handled=none
 dp:A.depth+3*k+5 < recursionLimit
 un:A.units+16*k+200 < cLine
theorem Room.mono {j k:Nat}{A:Around}(r:Room k A) (h:j<=k):Room j A:=⟨r.hd,by have:=r.dp;omega,by have:=r.un;omega⟩
theorem Room.deeper {k:Nat}{A:Around}(r:Room (k+1) A) (env:Env):Room k (A.deeper env):=
 ⟨r.hd,by have:=r.dp;show A.depth+1+3*k+5 < _;omega,by have:=r.un;show A.units+3+16*k+200 < _;omega⟩
theorem Room.depth {k:Nat}{A:Around}(r:Room k A):A.depth < recursionLimit:=by have:=r.dp;omega
theorem Room.units {k:Nat}{A:Around}(r:Room k A):A.units+64 < cLine:=by have:=r.un;omega
def u0:TA:=fun _ H Q=>Q [] H
def jF (ta:TE) (tr:TA):TA:=fun σ H Q=>ta σ H fun x H1=>tr σ H1 fun xs H2=>Q (x::xs) H2
section
variable {X:Cx}{e:Expr}{es:List Expr}{te:TE}{t:TA}{pos:Pos}
theorem FO:PA X [] u0:=fun _ _ _ _ H Q I h=>c1X ⟨[],H,I,.nil,h⟩
theorem CH (ha:PE X e te) (hr:PA X es t) (hs:starEach (e::es) X.env=(false,eval e X.env)::starEach es X.env:=by rfl):PA X (e::es) (jF te t):=by
 intro pos pins s σ H Q I h
 rw[hs]
 show wpAny _ _ (spliced ((false,eval e X.env)::backTo pos (starEach es X.env))) _ _ s
 refine xP (thn (ha pins s σ H _ I h) fun u s1 ⟨x,H1,I1,r1,q1⟩=>?_)
 exact thn (hr pos pins s1 σ H1 _ I1 q1) fun us s2 ⟨xs,H2,I2,r2,q2⟩=>⟨x::xs,H2,I2,.cons r1 r2,q2⟩
def z6 (t:TA):TE:=fun σ H Q=>t σ H fun xs H1=>xs.length<=sizeLine/\∀p,H1 p=none->Q (.ref p) (upd H1 p (.tup xs))
def u4 (t:TA):TE:=fun σ H Q=>t σ H fun xs H1=>xs.length<=sizeLine/\∀p,H1 p=none->Q (.ref p) (upd H1 p (.lst xs))
theorem u5 {x1} (h:PA X es t):PE X (.Tuple es x1 pos) (z6 t):=by
 intro pins s σ H Q I hq
 refine wpAny_Tuple_spliced (thn (h pos pins s σ H _ I hq) fun us s1 ⟨xs,H1,I1,r,z,q⟩=>⟨by rw[← r.length];exact z,?_⟩)
 have hf:H1 s1.heap.objs.size=none:=I1.hok.fresh (zR _)
 refine⟨.ref s1.heap.objs.size,upd H1 s1.heap.objs.size (.tup xs),I1.laid (t':=s1.toks) (fun b u e=>zW _ e) (zR _) ?_,rfl,q _ hf⟩
 exact⟨z,us,r,⟨_,yZ _ rfl,rfl,_,rfl⟩⟩
theorem u6 (h:PA X es t):PE X (.List es pos) (u4 t):=by
 intro pins s σ H Q I hq
 refine wpAny_List_spliced (thn (h pos pins s σ H _ I hq) fun us s1 ⟨xs,H1,I1,r,z,q⟩=>⟨by rw[← r.length];exact z,?_⟩)
 have hf:H1 s1.heap.objs.size=none:=I1.hok.fresh (zR _)
 refine⟨.ref s1.heap.objs.size,upd H1 s1.heap.objs.size (.lst xs),I1.laid (t':=s1.toks) (fun b u e=>zW _ e) (zR _) ?_,rfl,q _ hf⟩
 exact⟨z,us,0,r,yZ _ rfl⟩
end
abbrev Sp:=List V->Hp->VK->XK->Prop
abbrev CXT:=List Env->Hp->Shared->XK->Value->Shared->Prop
structure Env0 (P:Program) (w:World) (K:Frg) (mg:Str->Option Value) (base:Heap) (A:Around) (outer:List Env) (s:Shared) (H:Hp):Prop where
 frames:A.frames=some outer
 mod:Mod K mg base
 bs:∀b o,base.get? b=some o->s.heap.get? b=some o/\H b=none
 bsz:base.objs.size<=s.heap.objs.size
 funs:s.heap.FunFrames base outer
 frf:∀b∈frs outer,H b=none
 hok:HOk P w H s.heap
 bare:AllBare s.gens
def CE (outer:List Env) (P:Program) (w:World) (H:Hp) (s:Shared) (Q:VK) (u:Value) (s':Shared):Prop:=
 ∃v H',s'.os=s.os/\AllBare s'.gens/\Un (frs outer) [] H H' s.heap s'.heap/\HOk P w H' s'.heap/\RelV v u/\Q v H'
def CR (CX:CXT) (outer:List Env) (P:Program) (w:World) (H:Hp) (s:Shared) (Q:VK) (E:XK) (r:Result) (s':Shared):Prop:=
 match r with
 | .ok (.ret u)=>CE outer P w H s Q u s'
 | .ok _=>False
 | .error e=>CX outer H s E e s'
structure FnOk (P:Program) (w:World) (K:Frg) (mg:Str->Option Value) (base:Heap) (CX:CXT) (k:Nat) (f:Addr) (fd:FuncData) (ps:List Str) (sp:Sp):Prop where
 len:∀vs H Q E,sp vs H Q E->vs.length=ps.length
 run:∀(A:Around) (outer:List Env) (s:Shared) (H:Hp) (args:Args) (us:List Value) (vs:List V) (Q:VK) (E:XK),Room k A->Env0 P w K mg base A outer s H->BindsTo s fd args (ps.zip us)->Vals vs us->sp vs H Q E ->
   codeAny (model P w) A (.call (.ref f) args) (CR CX outer P w H s Q E) s
section
variable {X:Cx}{pins:List (Addr×Obj)}{σ:St}{H:Hp}{s s':Shared}
theorem Inv.env0 (I:Inv X pins σ H s):Env0 X.prog X.w X.K X.mg X.base X.A X.stack s H:=
 ⟨I.ok.frames,I.ok.mod,I.bs,zN I.ok.bsz I.sz,I.stack,I.stkFree,I.hok,I.bare⟩
theorem Inv.after {Q:VK}{u:Value}(I:Inv X pins σ H s) (h:CE X.stack X.prog X.w H s Q u s'):EP X pins σ Q u s':=by
 obtain⟨v,H',os,bare,un,hok,r,q⟩:=h
 obtain⟨hh,g,d,t,os'⟩:=s'
 obtain rfl:os'=s.os:=os
 exact⟨v,H',I.call (h':=hh) (g':=g) (d':=d) (t':=t) (ch:=[]) un hok bare (fun b z=>absurd z (by simp)),r,q⟩
end
def cX (sp:Sp) (dvs:List V) (E:XK) (t:TA):TE:=fun σ H Q=>t σ H fun vs H1=>sp (vs++dvs) H1 Q E
def Binds (K:Frg) (fd:FuncData) (ps:List Str) (ds:List Value):Prop:=
 ∀(s:Shared) (us:List Value),K.In s.heap->(us++ds).length=ps.length->BindsTo s fd ⟨us,[]⟩ (ps.zip (us++ds))
theorem Binds.all {K:Frg}{fd:FuncData}{ps:List Str}(h:∀us:List Value,us.length=ps.length->bindArgs fd ⟨us,[]⟩=pure (ps.zip us)):Binds K fd ps []:=fun s us _ hl=>by
 rw[a9V] at hl ⊢
 exact .of_eq (h us hl)
def aK (CX:CXT) (X:Cx) (E:XK):Prop:=∀(pins:List (Addr×Obj)) (σ:St) (H:Hp) (s:Shared) (e:Value) (s':Shared),Inv X pins σ H s->CX X.stack H s E e s'->X.xe e s'
section
variable {X:Cx}{CX:CXT}{k:Nat}{f C:Addr}{fd:FuncData}{ps:List Str}{sp:Sp}{dvs:List V}{ds:List Value}{E:XK}{x m:Str}{p pos apos:Pos}{e o:Expr}{es:List Expr}{ta:TE}{t:TA}
theorem u7 {pins:List (Addr×Obj)}{σ:St}{H:Hp}{s:Shared}{Q:VK}{us:List Value}{vs:List V}(F:FnOk X.prog X.w X.K X.mg X.base CX k f fd ps sp) (hr:Room k X.A) (hb:Binds X.K fd ps ds) (hd:Vals dvs ds) (hx:aK CX X E)
   (I:Inv X pins σ H s) (r:Vals vs us) (h:sp (vs++dvs) H Q E):wpAny (model X.prog X.w) X.A (call (.ref f) us) (EP X pins σ Q) X.xe s:=by
 have r2:Vals (vs++dvs) (us++ds):=r.append hd
 have hl:(us++ds).length=ps.length:=by rw[← r2.length];exact F.len _ _ _ _ h
 refine wpAny_call (codeAny_mono (F.run X.A X.stack s H ⟨us,[]⟩ (us++ds) (vs++dvs) Q E hr I.env0 (hb s us I.kIn hl) r2 h) fun r s' hq=>?_)
 cases r with
 | error e=>exact hx pins σ H s e s' I hq
 | ok fl=>
   cases fl with
   | ret u=>exact I.after hq
   | next=>exact b4W hq
   | brk=>exact b4W hq
   | cont=>exact b4W hq
theorem o8 (F:FnOk X.prog X.w X.K X.mg X.base CX k f fd ps sp) (hr:Room k X.A) (hg:Gl X x) (hm:X.mg x=some (.ref f)) (hk:b3X X.K (.ref f)=true) (hb:Binds X.K fd ps ds) (hd:Vals dvs ds) (hx:aK CX X E)
   (ha:PA X (e::es) t) (hdb:(x==("__debug__":Str))=false:=by decide) (he:starEach (e::es) X.env=(false,eval e X.env)::starEach es X.env:=by rfl) (hpl:(backTo pos (starEach es X.env)).any (·.1)=false:=by rfl) :
   PE X (.Call (.Name x p) (e::es) [] pos) (cX sp dvs E t):=by
 intro pins s σ H Q I h
 refine wpAny_Call_Name_kw (VB I hg hm ?_ hdb)
 refine PySem.W.callWith_K (h₀:=X.base) I.ok.mod.kin hk (thn (ha pos pins s σ H _ I h) fun us s1 ⟨vs,H1,I1,r,q⟩=>⟨I1.kIn,?_⟩) he hpl
 exact u7 F hr hb hd hx I1 r q
end
structure FnScope (N P:List Str) (sc:Scope):Prop where
 kind:sc.kind = .function
 co:sc.isCoroutine=false
 gen:sc.isGenerator=false
 nd:N.Nodup
 pre:N.take P.length=P
 par:∀x∈P,sc.names.lookup x=some .local∨sc.names.lookup x=some .cell
 nofree:∀y∈sc.names,y.2≠.free
theorem TZ {kindOf:Str->Option NameKind}{x:Str}:∀{binds:List (Str×Value)}{m:Str->Option Value},(∀v,(x,v)∉binds)->bindL kindOf binds m x=m x
 | [],_,_=>rfl
 | (n,v)::r,m,h=>by
   unfold bindL
   rw[TZ fun w hw=>h w (yV _ hw)]
   split
   · have:x≠n:=by rintro rfl;exact h v a1J
     simp[this]
   · rfl
theorem U0 {kindOf:Str->Option NameKind}{x:Str}:∀{binds:List (Str×Value)}{m:Str->Option Value},(∀v,(x,v)∉binds)->bindC kindOf binds m x=m x
 | [],_,_=>rfl
 | (n,v)::r,m,h=>by
   unfold bindC
   rw[U0 fun w hw=>h w (yV _ hw)]
   split
   · rfl
   · have:x≠n:=by rintro rfl;exact h v a1J
     simp[this]
theorem U1 {kindOf:Str->Option NameKind}{x:Str}{v:Value}:∀{P:List Str}{vs:List Value}{i:Nat}{m:Str->Option Value},P.Nodup->P[i]?=some x->vs[i]?=some v->kindOf x=some .local ->
   bindL kindOf (P.zip vs) m x=some v
 | [],_,_,_,_,h,_,_=>by simp at h
 | _::_,[],_,_,_,_,h,_=>by simp at h
 | p::P,w::vs,0,m,nd,h1,h2,hk=>by
   simp at h1 h2;subst h1;subst h2
   show bindL kindOf ((p,w)::P.zip vs) m p=_
   unfold bindL
   rw[TZ fun v hv=>(xV.mp nd).1 (b8V hv).1,if_pos hk]
   simp
 | p::P,w::vs,i+1,m,nd,h1,h2,hk=>by
   show bindL kindOf ((p,w)::P.zip vs) m x=_
   unfold bindL
   exact U1 (i:=i) (xV.mp nd).2 (by simpa using h1) (by simpa using h2) hk
theorem U2 {kindOf:Str->Option NameKind}{x:Str}{v:Value}:∀{P:List Str}{vs:List Value}{i:Nat}{m:Str->Option Value},P.Nodup->P[i]?=some x->vs[i]?=some v->kindOf x≠some .local ->
   bindC kindOf (P.zip vs) m x=some v
 | [],_,_,_,_,h,_,_=>by simp at h
 | _::_,[],_,_,_,_,h,_=>by simp at h
 | p::P,w::vs,0,m,nd,h1,h2,hk=>by
   simp at h1 h2;subst h1;subst h2
   show bindC kindOf ((p,w)::P.zip vs) m p=_
   unfold bindC
   rw[U0 fun v hv=>(xV.mp nd).1 (b8V hv).1,if_neg hk]
   simp
 | p::P,w::vs,i+1,m,nd,h1,h2,hk=>by
   show bindC kindOf ((p,w)::P.zip vs) m x=_
   unfold bindC
   exact U2 (i:=i) (xV.mp nd).2 (by simpa using h1) (by simpa using h2) hk
def IQ (N:List Str) (vs:List V):St:=vs.map some++a4K (N.length - vs.length) none
def aL (CX:CXT) (P:Program) (w:World) (K:Frg) (mg:Str->Option Value) (base:Heap) (N:List Str) (qual:Str) (scope:Scope) (f:Addr) (cd:Value) (A:Around) (outer:List Env) (s:Shared) (H:Hp) (E:XK):Cx where
 prog:=P
 w:=w
 K:=K
 mg:=mg
 base:=base
 A:=A.deeper (envOfC qual scope s.heap.objs.size f cd)
 N:=N
 s₀:=s
 H₀:=H
 env:=envOfC qual scope s.heap.objs.size f cd
 outer:=outer
 stack:=envOfC qual scope s.heap.objs.size f cd::outer
 ex:=[]
 calm:=true
 fn:=fun _=>true
 pn:=[]
 xe:=fun e s'=>wpAny (model P w) (A.deeper (envOfC qual scope s.heap.objs.size f cd)) (leaving (envOfC qual scope s.heap.objs.size f cd) e) (fun _ s''=>CX outer H s E e s'') (fun e' s''=>CX outer H s E e' s'') s'
theorem XM {sc:Scope}{n:Nat}{x:Str}(h:sc.names.lookup x=some .cell):∃c,(cellsFrom n sc.names []).lookup x=some c:=by
 have q:=PySem.W.cellsFrom_some sc.names n [] (.inl h)
 exact Option.isSome_iff_exists.mp q
theorem gE {CX:CXT}{P:Program}{w:World}{K:Frg}{mg:Str->Option Value}{base:Heap}{N ps:List Str}{qual:Str}{scope:Scope}{f:Addr}{cd:Value}{A:Around}{outer:List Env}{s s1:Shared}{H:Hp}{E:XK}{us:List Value}{vs:List V}
   (S:FnScope N ps scope) (hd:A.handled=none) (e0:Env0 P w K mg base A outer s H) (hl:vs.length=ps.length) (r:Vals vs us)
   (x:InCallC s s.heap.objs.size (bindL (envOfC qual scope s.heap.objs.size f cd).kindOf (ps.zip us) fun _=>none) (cellsFrom (s.heap.objs.size+1) scope.names []) (bindC (envOfC qual scope s.heap.objs.size f cd).kindOf (ps.zip us) fun _=>none) s1) :
   Inv (aL CX P w K mg base N qual scope f cd A outer s H E) [] (IQ N vs) H s1:=by
 have hpl:ps.length<=N.length:=by have:=congrArg c3Q S.pre;rw[a2Z] at this;omega
 obtain⟨h1,tk,rfl,hk⟩:=x.done
 have noA:∀b:Addr,b∉(aL CX P w K mg base N qual scope f cd A outer s H E).ex:=fun b z=>absurd (show b∈([]:List Addr) from z) (by simp)
 refine⟨⟨e0.mod,S.kind,rfl,rfl,zR _,fun y z c h1 h2=>?_,fun y hy=>?_,fun y c _ h=>?_,fun _=>hd,Around.frames_deeper e0.frames,.inr ⟨rfl,rfl⟩,fun b z=>absurd z (noA b),e0.bs,e0.bsz,fun b _ _=>noA b,fun b z=>absurd z (noA b),e0.funs,e0.frf⟩,
   rfl,e0.bare,Un.kept hk,⟨_,x.toInCall.ns,fun i y v h1 h2 h3=>?_⟩,fun y c h=>⟨_,x.cell y c h⟩,e0.hok.fresh (zR _),fun y c h=>?_,fun p hp=>absurd (show p∈([]:List (Addr×Obj)) from hp) (by simp),e0.hok.kept hk,?_⟩
 · exact name_of_addr x.apart (a5W h1) (a5W h2)
 · have hy:scope.names.lookup y=some .cell∨scope.names.lookup y=some .free:=hy
   rcases hy with hy | hy
   · exact XM hy
   · exact absurd rfl (S.nofree _ (a5W hy))
 · exact xR (x.above y c (a5W h))
 · have hi:i < vs.length:=by
     unfold IQ at h2
     by_cases hi:i < vs.length
     · exact hi
     · rw[yP (by simpa using hi)] at h2
       rw[List.getElem?_replicate] at h2
       split at h2 <;> cases h2
   have ha:vs[i]?=some v:=by
     unfold IQ at h2
     rw[yQ (by simpa using hi),zF] at h2
     cases e:vs[i]? with
     | none=>rw[e] at h2;cases h2
     | some a=>rw[e] at h2;cases h2;rfl
   obtain⟨u,hu,rv⟩:=r.get ha
   have hp:ps[i]?=some y:=by
     rw[← S.pre,List.getElem?_take_of_lt (by omega)];exact h1
   have ndP:ps.Nodup:=by rw[← S.pre];exact S.nd.sublist (List.take_sublist _ _)
   refine⟨u,rv,?_⟩
   rcases S.par y (yN hp) with k | k
   · exact .inl ⟨k,U1 ndP hp hu k⟩
   · obtain⟨c,e⟩:=XM (n:=s.heap.objs.size+1) k
     refine .inr ⟨.inl k,c,e,?_⟩
     have q:=x.cell y c e
     rw[U2 ndP hp hu (by show scope.names.lookup y≠_;rw[k];decide)] at q
     exact q
 · exact e0.hok.fresh (xR (x.above y c (a5W h)))
 · unfold IQ
   show _=N.length
   rw[yY,zX,b2J]
   omega
theorem z7 {CX:CXT}{P:Program}{w:World}{K:Frg}{mg:Str->Option Value}{base:Heap}{k:Nat}{f:Addr}{name qual:Str}{params:Arguments}{body:List Stmt}{scope:Scope}{dV kV doc pm cdv ct oc:Value}{an od:Option Addr}
   {osl:Array (Option Value)}{N ps:List Str}{sp:Sp}(lk:K.lookup f=some ⟨oc,od,.func (a9K name qual params body scope dV kV doc pm an cdv ct),osl⟩) (hcd:b9Q K cdv qual=true) (S:FnScope N ps scope)
   (len:∀vs H Q E,sp vs H Q E->vs.length=ps.length)
   (hbody:∀(A:Around) (outer:List Env) (s:Shared) (H:Hp) (vs:List V) (Q:VK) (E:XK),Room k (A.deeper (envOfC qual scope s.heap.objs.size f cdv))->sp vs H Q E ->
     ∃t,PSs (aL CX P w K mg base N qual scope f cdv A outer s H E) body t/\t { nx:=fun _ H'=>Q .non H',rt:=Q } (IQ N vs) H) :
   FnOk P w K mg base CX (k+1) f (a9K name qual params body scope dV kV doc pm an cdv ct) ps sp:=by
 refine⟨len,fun A outer s H args us vs Q E hr e0 hb r hsp=>?_⟩
 have hl:=len _ _ _ _ hsp
 have KX:K.In s.heap:=e0.mod.kin.keeps fun b o e=>(e0.bs b o e).1
 have lim:s.heap.NoLimit:=e0.mod.nolimit.keeps fun b o e=>(e0.bs b o e).1
 have hkind:∀y∈ps.zip us,scope.names.lookup y.1=some .local∨(scope.names.lookup y.1=some .cell/\((cellsFrom (s.heap.objs.size+1) scope.names []).lookup y.1).isSome=true):=fun⟨n,v⟩ hy=>by
   rcases S.par n (b8V hy).1 with q | q
   · exact .inl q
   · exact .inr ⟨q,PySem.W.cellsFrom_some _ _ _ (.inl q)⟩
 refine codeAny_call_function hr.depth (KX _ _ lk) rfl S.co S.gen rfl (PySem.W.codeRec_of KX hcd) (hb _ _ _ _ ?_)
 refine wpAny_newFunctionEnv_cells S.kind hkind fun env he s1 x=>?_
 subst he
 refine⟨lim.keeps x.toInCall.keep,codeAny_func ?_⟩
 obtain⟨t,ht,hq⟩:=hbody A outer s H vs Q E (hr.deeper _) hsp
 have I:Inv (aL CX P w K mg base N qual scope f cdv A outer s H E) [] (IQ N vs) H s1:=gE S hr.hd e0 hl r x
 refine wpAny_mono (ht [] s1 (IQ N vs) H _ I hq) (fun fl s' hs=>?_) fun e s' hs=>hs
 have fin:∀{σ':St}{H':Hp}{v:V}{u:Value},Inv (aL CX P w K mg base N qual scope f cdv A outer s H E) [] σ' H' s'->RelV v u->Q v H'->CE outer P w H s Q u s':=
   fun {σ' H' v u} J rv q=>⟨v,H',J.os,J.bare,J.base,J.hok,rv,q⟩
 cases fl with
 | ret u=>
   obtain⟨v,σ',H',J,rv,q⟩:=hs
   exact fin J rv q
 | next=>
   obtain⟨σ',H',J,q⟩:=hs
   exact fin (v:=V.non) (u:=a4Q) J rfl q
 | brk=>
   obtain⟨_,_,_,q⟩:=hs
   exact b4W q
 | cont=>
   obtain⟨_,_,_,q⟩:=hs
   exact b4W q
section
variable {X:Cx}{x:Str}{p pos:Pos}{e:Expr}{es:List Expr}{t:TA}{id T:String}{r:List V->Hp->VK->Prop}
def tCB (r:List V->Hp->VK->Prop) (t:TA):TE:=fun σ H Q=>t σ H fun vs H1=>r vs H1 Q
theorem D3 (hc:BQ X (.builtin id) r) (hg:Gl X x) (hm:X.mg x=none) (hv:bootBuiltins x=some (.builtin id)) (ha:PA X (e::es) t) (hn:x ≠ "__name__" := by decide) (hdb:(x==("__debug__":Str))=false:=by decide)
   (he:starEach (e::es) X.env=(false,eval e X.env)::starEach es X.env:=by rfl) (hpl:(backTo pos (starEach es X.env)).any (·.1)=false:=by rfl):PE X (.Call (.Name x p) (e::es) [] pos) (tCB r t):=by
 intro pins s σ H Q I h
 refine wpAny_Call_Name_kw (GL I hg hm hv ?_ hn hdb)
 exact PyProof.Rows.callWith_builtin1 (thn (ha pos pins s σ H _ I h) fun us s1 ⟨vs,H1,I1,r1,q1⟩=>hc pins s1 σ H1 vs us Q I1 r1 q1) he hpl
theorem FK (hc:BQ X (.type T) r) (hg:Gl X x) (hm:X.mg x=none) (hv:bootBuiltins x=some (.type T)) (ha:PA X (e::es) t) (hn:x ≠ "__name__" := by decide) (hdb:(x==("__debug__":Str))=false:=by decide)
   (he:starEach (e::es) X.env=(false,eval e X.env)::starEach es X.env:=by rfl) (hpl:(backTo pos (starEach es X.env)).any (·.1)=false:=by rfl):PE X (.Call (.Name x p) (e::es) [] pos) (tCB r t):=by
 intro pins s σ H Q I h
 refine wpAny_Call_Name_kw (GL I hg hm hv ?_ hn hdb)
 exact xH (thn (ha pos pins s σ H _ I h) fun us s1 ⟨vs,H1,I1,r1,q1⟩=>hc pins s1 σ H1 vs us Q I1 r1 q1) he hpl
end
end L2
namespace HT
open PySem PyProof.Rows
section
variable {prog:Program}{w:World}{A:Around}{E:Value->Shared->Prop}{s:Shared}
def sIx (n d:Nat):Option Int->Nat
 | none=>d
 | some v=>if v < 0 then (v+(n:Int)).toNat else min v.toNat n
theorem sIx_nat (n d k:Nat):sIx n d (some (k:Int))=min k n:=by
 show(if (k:Int) < 0 then ((k:Int)+(n:Int)).toNat else min (k:Int).toNat n)=min k n
 rw[if_neg (by omega),b3J]
theorem u8 (n d:Nat) (hd:d<=n) (o:Option Int):sIx n d o<=n:=by
 cases o with
 | none=>exact hd
 | some v=>
   show(if v < 0 then (v+(n:Int)).toNat else min v.toNat n)<=n
   by_cases hv:v < 0
   · rw[if_pos hv];omega
   · rw[if_neg hv];exact Nat.min_le_right _ _
theorem cY (v:Int) (n d:Nat):(if v < 0 then max (v+(n:Int)) 0 else min v (n:Int))=((sIx n d (some v):Nat):Int):=by
 show(if v < 0 then max (v+(n:Int)) 0 else min v (n:Int))=(((if v < 0 then (v+(n:Int)).toNat else min v.toNat n):Nat):Int)
 by_cases hv:v < 0
 · simp only[if_pos hv];omega
 · simp only[if_neg hv];omega
theorem aM (lo hi:Option Int) (n:Nat):b6V lo hi 1 (n:Int)=(((sIx n 0 lo:Nat):Int),((sIx n n hi:Nat):Int)):=by
 have h1:¬((1:Int) < 0):=by omega
 unfold b6V
 simp only[h1,if_false]
 refine Prod.ext ?_ ?_
 · cases lo with
   | none=>rfl
   | some v=>exact cY v n 0
 · cases hi with
   | none=>rfl
   | some v=>exact cY v n n
theorem aN (i j:Nat):b1W (i:Int) (j:Int) 1=j - i:=by
 unfold b1W
 have h1:(1:Int) > 0:=by omega
 simp only[h1,if_true,Int.ediv_one]
 split <;> omega
theorem QD {v:Value}{o:Option Int}{Q:Option Int->Shared->Prop}(p:IsPart v o) (h:Q o s):wpAny (model prog w) A (Builtin.Slice.slicePartIndex v) Q E s:=by
 cases p with
 | none=>exact slicePart_none h
 | int i t=>exact slicePart_int h
theorem GT {sl:Addr}{vl vu:Value}{lo hi:Option Int}{n:Nat}{Q:Int×Int×Nat->Shared->Prop}(hs:s.heap.IsSliceOf sl vl vu .none) (pl:IsPart vl lo) (pu:IsPart vu hi)
   (h:Q (((sIx n 0 lo:Nat):Int),1,sIx n n hi - sIx n 0 lo) s):wpAny (model prog w) A (Builtin.Slice.sliceApplied (.ref sl) (pure (n:Int))) Q E s:=by
 obtain⟨os,hos,hcs,hds⟩:=id hs
 unfold Builtin.Slice.sliceApplied Builtin.Slice.sliceFields
 refine zZ (zZ (wpAny_field hos hds (x:=vl) rfl (zZ (wpAny_field hos hds (x:=vu) rfl (zZ (wpAny_field hos hds (x:=.none) rfl (zY ?_)))))))
 refine zZ (slicePart_none ?_)
 show wpAny _ _ (if ((1:Int)==0)=true then _ else _) _ _ s
 rw[if_neg (by decide)]
 refine zZ (QD pl (zZ (QD pu (zZ (zY ?_)))))
 show wpAny _ _ (match b6V lo hi 1 (n:Int) with | (lo,hi)=>pure (lo,(1:Int),b1W lo hi 1)) _ _ s
 rw[aM lo hi n]
 show wpAny _ _ (pure (((sIx n 0 lo:Nat):Int),(1:Int),b1W ((sIx n 0 lo:Nat):Int) ((sIx n n hi:Nat):Int) 1)) _ _ s
 rw[aN]
 exact zY h
theorem jG (xs:Array Value) (i k:Nat):((a3Z k).filterMap fun(m:Nat)=>xs[((i:Int)+(m:Int)*1).toNat]?).toArray=((xs.toList.drop i).take k).toArray:=by
 have e:(fun(m:Nat)=>xs[((i:Int)+(m:Int)*1).toNat]?)=fun m=>xs[i+m]?:=by
   funext m
   have:((i:Int)+(m:Int)*1).toNat=i+m:=by omega
   rw[this]
 rw[e]
 have:=pick_run xs i k
 rw[List.filterMap_map] at this
 have e2:((fun x=>xs[x]?)∘fun x=>i+x)=fun m=>xs[i+m]?:=rfl
 rw[e2] at this
 rw[this]
theorem getItem_tuple_cut {t sl:Addr}{items:Array Value}{vl vu:Value}{lo hi:Option Int}{Q:Value->Shared->Prop}(ht:IsTup s.heap t items) (hs:s.heap.IsSliceOf sl vl vu .none) (pl:IsPart vl lo) (pu:IsPart vu hi)
   (hw:¬(sIx items.size 0 lo=0/\sIx items.size items.size hi=items.size))
   (h:Q (.ref s.heap.objs.size) { s with heap:=s.heap.push { cls:=.type "tuple", data:=.seq ((items.toList.drop (sIx items.size 0 lo)).take (sIx items.size items.size hi - sIx items.size 0 lo)).toArray } })
   (hsz:items.size<=sizeLine):wpAny (model prog w) A (getItem (.ref t) (.ref sl)) Q E s:=by
 have htake:sizeOk (.seq ((items.toList.drop (sIx items.size 0 lo)).take (sIx items.size items.size hi - sIx items.size 0 lo)).toArray):=by
   show((items.toList.drop (sIx items.size 0 lo)).take (sIx items.size items.size hi - sIx items.size 0 lo)).toArray.size<=sizeLine
   rw[zJ,a2Z,a6K,a0K]
   omega
 have hj:sIx items.size items.size hi<=items.size:=u8 _ _ (zR _) hi
 obtain⟨os,hos,hcs,hds⟩:=id hs
 have hTs:s.TypeIs (.ref sl) "slice" := ⟨os,hos,hcs⟩
 unfold getItem
 try with_reducible refine wpAny_holding ?_
 first | refine zZ (zY ?_) | skip
 refine zZ (wpAny_sequenceKey ht.typeIs (by decide) ?_)
 refine zZ (wpAny_callSpecial?_slot (name:=a0Q "__getitem__") ht.typeIs a8K
   (wpAny_call_entry a8K ht.typeIs entry_tuple_getitem ?_ (args_tuple_getitem _ _)))
 show wpAny _ _ (Builtin.Tuple.tupleItemsOf (.ref t) >>= _) _ _ s
 refine zZ (tupleItemsOf_ ht ?_)
 refine zZ (wpAny_typeOf hTs ?_)
 rw[if_pos (by decide)]
 refine zZ (GT hs pl pu ?_)
 have hno:¬((((sIx items.size 0 lo:Nat):Int)==0&&(1:Int)==1&&(sIx items.size items.size hi - sIx items.size 0 lo)==items.size)=true):=by
   intro q
   rw[a0V,a0V] at q
   have q1:((sIx items.size 0 lo:Nat):Int)=0:=eq_of_beq q.1.1
   have q2:sIx items.size items.size hi - sIx items.size 0 lo=items.size:=eq_of_beq q.2
   exact hw ⟨by omega,by omega⟩
 show wpAny _ _ (if (((sIx items.size 0 lo:Nat):Int)==0&&(1:Int)==1&&(sIx items.size items.size hi - sIx items.size 0 lo)==items.size)=true then _ else _) _ _ s
 rw[if_neg hno,jG]
 first
   | exact zZ (m:=b2X _) (xM (zY ⟨_,rfl,zY h⟩) htake)
   | exact zZ (m:=b2X _) (xM (zZ (zY (zY ⟨_,rfl,zY h⟩))) htake)
   | exact zZ (zZ (m:=b2X _) (xM (zY (zY ⟨_,rfl,zY h⟩)) htake))
   | exact zZ (zZ (m:=b2X _) (xM (zY ⟨_,rfl,zY h⟩) htake))
end
end HT
namespace L2
open PySem PySem.Spec PyProof.Rows
abbrev TO:=St->Hp->(Option Int->Hp->Prop)->Prop
def PO (X:Cx) (e:Option Expr) (t:TO):Prop:=
 ∀(pins:List (Addr×Obj)) (s:Shared) (σ:St) (H:Hp) (Q:Option Int->Hp->Prop),Inv X pins σ H s->t σ H Q ->
   wpAny (model X.prog X.w) X.A (evalPart e X.env) (fun u s'=>∃o H',Inv X pins σ H' s'/\IsPart u o/\Q o H') X.xe s
def cZ:TO:=fun _ H Q=>Q none H
def sE (t:TE):TO:=fun σ H Q=>t σ H fun x H1=>∃i,x = .int i/\Q (some i) H1
section
variable {X:Cx}{e:Expr}{te:TE}{lo hi:Option Expr}{tl th:TO}{pos p2:Pos}
theorem dA:PO X none cZ:=by
 intro pins s σ H Q I h
 rw[evalPart_none]
 exact zY ⟨none,H,I,.none,h⟩
theorem dB (h:PE X e te):PO X (some e) (sE te):=by
 intro pins s σ H Q I hw
 rw[evalPart_some]
 refine thn (h pins s σ H _ I hw) fun u s1 ⟨x,H1,I1,r1,q1⟩=>?_
 obtain⟨i,rfl,q⟩:=q1
 obtain⟨t,rfl⟩:=r1
 exact⟨some i,H1,I1,.int i t,q⟩
def SlR (X:Cx) (r:V->Option Int->Option Int->Hp->VK->Prop):Prop:=
 ∀(pins:List (Addr×Obj)) (s:Shared) (σ:St) (H:Hp) (x:V) (v vl vu:Value) (lo hi:Option Int) (sl:Addr) (Q:VK),Inv X pins σ H s->RelV x v->s.heap.IsSliceOf sl vl vu .none->IsPart vl lo->IsPart vu hi->r x lo hi H Q ->
   ∃T id,typeLookup (.type T) "__getitem__"=pure (some (.builtin id))/\s.TypeIs v T/\wpAny (model X.prog X.w) X.A (getItem v (.ref sl)) (EP X pins σ Q) X.xe s
theorem SlR.or {r r':V->Option Int->Option Int->Hp->VK->Prop}(h:SlR X r) (h':SlR X r'):SlR X (fun x lo hi H Q=>r x lo hi H Q∨r' x lo hi H Q):=by
 intro pins s σ H x v vl vu lo hi sl Q I rx hs pl pu q
 rcases q with q | q
 · exact h pins s σ H x v vl vu lo hi sl Q I rx hs pl pu q
 · exact h' pins s σ H x v vl vu lo hi sl Q I rx hs pl pu q
def tSl (r:V->Option Int->Option Int->Hp->VK->Prop) (te:TE) (tl th:TO):TE:=fun σ H Q=>te σ H fun x H1=>tl σ H1 fun l H2=>th σ H2 fun u H3=>r x l u H3 Q
theorem XN {r:V->Option Int->Option Int->Hp->VK->Prop}(hr:SlR X r) (he:PE X e te) (hl:PO X lo tl) (hu:PO X hi th):PE X (.Subscript e (.Slice lo hi none p2) pos) (tSl r te tl th):=by
 intro pins s σ H Q I h
 refine Subscript_ (thn (he pins s σ H _ I h) fun v s1 ⟨x,H1,I1,r1,q1⟩=>?_)
 refine wpAny_Slice (thn (hl pins s1 σ H1 _ I1 q1) fun vl s2 ⟨l,H2,I2,pl,q2⟩=>thn (hu pins s2 σ H2 _ I2 q2) fun vu s3 ⟨u,H3,I3,pu,q3⟩=>?_)
 rw[evalPart_none]
 refine zY ?_
 have I4:Inv X pins σ H3 { s3 with heap:=s3.heap.push { cls:=.type "slice", data:=.fields #[vl,vu,.none] } }:=I3.kept (t':=s3.toks) fun b ob q=>zW _ q
 obtain⟨T,id,hT,ht,hg⟩:=hr pins { s3 with heap:=s3.heap.push { cls:=.type "slice", data:=.fields #[vl,vu,.none] } } σ H3 x v vl vu l u s3.heap.objs.size Q I4 r1 (Heap.IsSliceOf.new ..) pl pu q3
 show wpAny (model X.prog X.w) X.A (subscriptTail e (.Slice lo hi none p2) v (.ref s3.heap.objs.size)) (EP X pins σ Q) X.xe { s3 with heap:=s3.heap.push { cls:=.type "slice", data:=.fields #[vl,vu,.none] } }
 exact tail_any (ops:=[.ref s3.heap.objs.size,v]) ht hT hg (by with_unfolding_all rfl)
def LO (xs:List V) (lo hi:Option Int):List V:=(xs.drop (HT.sIx xs.length 0 lo)).take (HT.sIx xs.length xs.length hi - HT.sIx xs.length 0 lo)
theorem OG (xs:List V) (lo hi:Option Int):(LO xs lo hi).length<=xs.length:=by
 unfold LO
 rw[a2Z,a6K]
 omega
def A0y (K:Frg):V->Option Int->Option Int->Hp->VK->Prop:=fun x lo hi H Q=>∃a xs,x = .ref a/\SqT K H a xs /\
 ¬(HT.sIx xs.length 0 lo=0/\HT.sIx xs.length xs.length hi=xs.length)/\∀p,H p=none->Q (.ref p) (upd H p (.tup (LO xs lo hi)))
theorem u9:SlR X (A0y X.K):=by
 intro pins s σ H x v vl vu lo hi sl Q I rx hs pl pu h
 obtain⟨a,xs,rfl,hx,hw,q⟩:=h
 cases rx
 obtain⟨its,r,ht,hz⟩:=I.tuple hx
 have hlen:its.toArray.size=xs.length:=by rw[zJ];exact r.length.symm
 refine⟨"tuple", _,PyProof.Rows.slot_tuple_getitem.lookup,ht.typeIs,?_⟩
 refine HT.getItem_tuple_cut ht hs pl pu (by rw[hlen];exact hw) ?_ (by rw[hlen];exact hz)
 rw[hlen]
 refine⟨.ref s.heap.objs.size,_,I.laid (t':=s.toks) (o:=.tup (LO xs lo hi)) (fun b ob q=>zW _ q) (zR _) ?_,rfl,q _ (I.hok.fresh (zR _))⟩
 exact⟨zN (OG xs lo hi) hz,_,(r.drop (HT.sIx xs.length 0 lo)).take (HT.sIx xs.length xs.length hi - HT.sIx xs.length 0 lo),IsTup.new _ _⟩
end
def ixN (n:Nat) (i:Int):Option Nat:=if 0<=i then (if i < n then some i.toNat else none) else if -(n:Int)<=i then some (i+n).toNat else none
def atI {α:Type}(xs:List α) (i:Int):Option α:=(ixN xs.length i).bind fun j=>xs[j]?
theorem dC {n:Nat}{i:Int}{j:Nat}(h:ixN n i=some j):seqIndex? i n=some j/\j < n/\-(n:Int)<=i/\i < n:=by
 unfold ixN at h
 by_cases h0:0<=i
 · rw[if_pos h0] at h
   by_cases h1:i < n
   · rw[if_pos h1] at h
     have e:i.toNat=j:=Option.some.inj h
     exact⟨by rw[seqIndex_of h0 h1,e],by omega,by omega,h1⟩
   · rw[if_neg h1] at h;cases h
 · rw[if_neg h0] at h
   by_cases h1 : -(n:Int)<=i
   · rw[if_pos h1] at h
     have e:(i+n).toNat=j:=Option.some.inj h
     exact⟨by rw[seqIndex_neg (by omega) h1,e],by omega,h1,by omega⟩
   · rw[if_neg h1] at h;cases h
theorem VD {α:Type}{xs:List α}{i:Int}{v:α}(h:atI xs i=some v):∃j,seqIndex? i xs.length=some j/\xs[j]?=some v/\j < xs.length/\-(xs.length:Int)<=i/\i < xs.length:=by
 unfold atI at h
 cases e:ixN xs.length i with
 | none=>rw[e] at h;cases h
 | some j=>
   rw[e] at h
   obtain⟨h1,h2,h3,h4⟩:=dC e
   exact⟨j,h1,h,h2,h3,h4⟩
theorem AC {α:Type}{xs:List α}{j:Nat}{v:α}(h:xs[j]?=some v):atI xs (j:Int)=some v:=by
 have hj:j < xs.length:=(yT.mp h).1
 have e:ixN xs.length (j:Int)=some j:=by
   unfold ixN
   rw[if_pos (by omega),if_pos (by omega)];simp
 unfold atI;rw[e];exact h
theorem jH {α:Type}(xs:List α) (v:α):atI (xs++[v]) (-1)=some v:=by
 have hl:(xs++[v]).length=xs.length+1:=by simp
 have e:ixN (xs++[v]).length (-1)=some xs.length:=by
   unfold ixN
   rw[hl,if_neg (by decide),if_pos (by omega)]
   congr 1
   omega
 unfold atI
 rw[e]
 show(xs++[v])[xs.length]?=some v
 simp
def o9 (b:Expr):Prop:=∀o i,subscripted b false o i=operate [o,i] (getItem o i)
def IxR (X:Cx) (r:R2):Prop:=
 ∀(value slice:Expr) (pins:List (Addr×Obj)) (s:Shared) (σ:St) (H:Hp) (x y:V) (v u:Value) (Q:VK),Inv X pins σ H s->RelV x v->RelV y u->r x y H Q ->
   subscripted slice false v u=operate [v,u] (getItem v u)->wpAny (model X.prog X.w) X.A (subscriptTail value slice v u) (EP X pins σ Q) X.xe s
def MtR (X:Cx) (id:String) (r:V->List V->Hp->VK->Prop):Prop:=
 ∀(pins:List (Addr×Obj)) (s:Shared) (σ:St) (H:Hp) (x:V) (xs:List V) (v:Value) (us:List Value) (Q:VK),Inv X pins σ H s->RelV x v->Vals xs us->r x xs H Q ->
   wpAny (model X.prog X.w) X.A (call (.builtin id) (v::us)) (EP X pins σ Q) X.xe s
section
variable {X:Cx}{a b:Expr}{ta tb:TE}{pos:Pos}
theorem IxR.or {r r':R2}(h:IxR X r) (h':IxR X r'):IxR X (fun x y H Q=>r x y H Q∨r' x y H Q):=by
 intro value slice pins s σ H x y v u Q I rx ry q hs
 rcases q with q | q
 · exact h value slice pins s σ H x y v u Q I rx ry q hs
 · exact h' value slice pins s σ H x y v u Q I rx ry q hs
theorem dD {r:R2}(hr:IxR X r) (ha:PE X a ta) (hb:PE X b tb) (hs:o9 b):PE X (.Subscript a b pos) (tOp r ta tb):=by
 intro pins s σ H Q I h
 exact Subscript_ (tT ha hb I h fun v u s2 x y H2 I2 rx ry q=>hr a b pins s2 σ H2 x y v u Q I2 rx ry q (hs _ _))
def oB (K:Frg):R2:=fun x y H Q=>∃p xs i v,x = .ref p/\y = .int i/\SqL K H p xs/\atI xs i=some v/\Q v H
def uA (K:Frg):R2:=fun x y H Q=>∃p xs i v,x = .ref p/\y = .int i/\SqT K H p xs/\atI xs i=some v/\Q v H
def uB:R2:=fun x y H Q=>∃z i c,x = .str z/\y = .int i/\z.length<=sizeLine/\atI z.cps.toList i=some c/\Q (.str ⟨#[c]⟩) H
theorem oD:IxR X (oB X.K):=by
 intro value slice pins s σ H x y v u Q I rx ry h hs
 obtain⟨p,xs,i,z,rfl,rfl,hq,he,q⟩:=h
 cases rx
 obtain⟨t,rfl⟩:=ry
 obtain⟨its,r,pl,hz⟩:=I.list hq
 obtain⟨j,h1,h2,h3,h4,h5⟩:=VD he
 obtain⟨w,ew,rw'⟩:=r.get h2
 have hl:=r.length
 have hn:=QC
 have fin:EP X pins σ Q w s:=⟨z,H,I,rw',q⟩
 by_cases h0:0<=i
 · have hj:i.toNat=j:=by
     rw[seqIndex_of h0 h5] at h1
     exact Option.some.inj h1
   exact item_listR pl.isList h0 (by omega) (by rw[hj];simpa using ew) fin hs
 · have hj:(i+(its.toArray.size:Int)).toNat=j:=by
     rw[seqIndex_neg (by omega) h4] at h1
     rw[zJ,← hl]
     exact Option.some.inj h1
   exact subscriptTail_builtinR (x:=w) pl.isList.typeIs slot_list_getitem.lookup
     (wpAny_getItem_list_neg (Q:=fun r s'=>r=w/\EP X pins σ Q r s') pl.isList (by omega) (by rw[zJ] <;> omega) (by omega) (by rw[hj];simpa using ew) ⟨rfl,fin⟩) hs
theorem uC:IxR X (uA X.K):=by
 intro value slice pins s σ H x y v u Q I rx ry h hs
 obtain⟨p,xs,i,z,rfl,rfl,hq,he,q⟩:=h
 cases rx
 obtain⟨t,rfl⟩:=ry
 obtain⟨its,r,pl,hz⟩:=I.tuple hq
 obtain⟨j,h1,h2,h3,h4,h5⟩:=VD he
 obtain⟨w,ew,rw'⟩:=r.get h2
 have hl:=r.length
 have hn:=QC
 have fin:EP X pins σ Q w s:=⟨z,H,I,rw',q⟩
 exact subscriptTail_builtinR (x:=w) pl.typeIs slot_tuple_getitem.lookup
   (getItem_tuple (j:=j) (Q:=fun r s'=>r=w/\EP X pins σ Q r s') pl (by omega) (by omega) (by rw[zJ,← hl];exact h1) (by simpa using ew) ⟨rfl,fin⟩) hs
theorem uD:IxR X uB:=by
 intro value slice pins s σ H x y v u Q I rx ry h hs
 obtain⟨z,i,c,rfl,rfl,hz,he,q⟩:=h
 obtain⟨t,rfl⟩:=rx
 obtain⟨t',rfl⟩:=ry
 obtain⟨j,h1,h2,h3,h4,h5⟩:=VD he
 have hl:z.cps.toList.length=z.length:=by simp[Str.length]
 rw[hl] at h1 h4 h5
 have hn:=QC
 exact tail_any (typeIs_str s z t) slot_str_getitem.lookup (getItem_str (c:=c) (by
   have e1:decide (i < -(2 ^ 63:Int))=false:=decide_eq_false (by omega)
   have e2:decide (i≥2 ^ 63)=false:=decide_eq_false (by omega)
   rw[e1,e2,Bool.or_false]) (by rw[h1];simpa using h2) ⟨.str ⟨#[c]⟩,H,I.tok _,⟨_,rfl⟩,q⟩) hs
theorem aO (its:List Value) (n j:Nat) (u:Value):a9X (·.setIfInBounds j u) { cls:=.type "list", data:=.seq its.toArray n }={ cls:=.type "list", data:=.seq (its.set j u).toArray n }:=by
 simp[a9X]
theorem Inv.lst {pins:List (Addr×Obj)}{σ:St}{H:Hp}{s:Shared}{p:Addr}{xs:List V}(I:Inv X pins σ H s) (h:H p=some (.lst xs)) :
   ∃(its:List Value) (n:Nat),Vals xs its/\s.heap.get? p=some { cls:=.type "list", data:=.seq its.toArray n }/\xs.length<=sizeLine:=by
 obtain⟨z,its,n,r,e⟩:=I.hok p _ h
 exact⟨its,n,r,e,z⟩
theorem Inv.lstUpd {pins:List (Addr×Obj)}{σ:St}{H:Hp}{s:Shared}{p:Addr}{xs ys:List V}{its its':List Value}{n n':Nat}{f:Obj->Obj}(I:Inv X pins σ H s) (h:H p=some (.lst xs))
   (ho:s.heap.get? p=some { cls:=.type "list", data:=.seq its.toArray n }) (hf:f { cls:=.type "list", data:=.seq its.toArray n }={ cls:=.type "list", data:=.seq its'.toArray n' }) (r:Vals ys its') (hz:ys.length<=sizeLine) (t:Nat) :
   Inv X pins σ (upd H p (.lst ys)) { s with heap:=s.heap.update p f,toks:=t }:=by
 have e:(s.heap.update p f).get? p=some { cls:=.type "list", data:=.seq its'.toArray n' }:=by
   rw[Heap.get?_update_self f ho (by rw[hf] <;> rfl),hf]
 refine I.write (x:=p) (e:=p) (by rw[h];trivial) (.inl rfl) (fun b u hb q=>(Heap.get?_update_other _ _ (b5Q hb)).trans q) ⟨_,e⟩ ?_
 exact⟨hz,its',n',r,e⟩
def sF:V->V->V->Hp->(Hp->Prop)->Prop:=fun o i v H Q=>∃p xs k j,o = .ref p/\i = .int k/\H p=some (.lst xs)/\ixN xs.length k=some j/\Q (upd H p (.lst (xs.set j v)))
theorem jI:y3 X sF:=by
 intro pins s σ H o i v ov iv u Q I ro ri rv h
 obtain⟨p,xs,k,j,rfl,rfl,hp,hj,q⟩:=h
 cases ro
 obtain⟨t,rfl⟩:=ri
 obtain⟨its,n,r,ho,hz⟩:=I.lst hp
 obtain⟨h1,h2,h3,h4⟩:=dC hj
 have hl:=r.length
 have hn:=QC
 have I':Inv X pins σ (upd H p (.lst (xs.set j v))) { s with heap:=s.heap.update p (a9X (·.setIfInBounds j u)) }:=
   I.lstUpd hp ho (aO its n j u) (r.set rv j) (by rw[List.length_set];exact hz) s.toks
 by_cases h0:0<=k
 · have hk:k.toNat=j:=by
     rw[seqIndex_of h0 h4] at h1
     exact Option.some.inj h1
   exact PySem.W.ki_setAt ho h0 (by omega) (by rw[zJ,← hl];exact h4) (by rw[hk];exact⟨_,I',q⟩)
 · have hk:(k+(its.toArray.size:Int)).toNat=j:=by
     rw[seqIndex_neg (by omega) h3] at h1
     rw[zJ,← hl]
     exact Option.some.inj h1
   exact PySem.W.ki_setBack ho (by omega) (by rw[zJ,← hl];exact h3) (by omega) (by rw[hk];exact⟨_,I',q⟩)
theorem VE (lo hi:Option Int) (n:Nat):(sliceBounds lo hi none n).1=((HT.sIx n 0 lo:Nat):Int)/\(sliceBounds lo hi none n).2.1=((HT.sIx n n hi:Nat):Int)/\(sliceBounds lo hi none n).2.2=1:=by
 refine⟨?_,?_,rfl⟩
 · cases lo with
   | none=>simp[sliceBounds,HT.sIx]
   | some i=>
     simp only[sliceBounds,HT.sIx,Option.getD_none,show(1:Int) > 0 by decide,if_true]
     by_cases h:i < 0
     · simp only[h,if_true] <;> omega
     · simp only[h,if_false] <;> omega
 · cases hi with
   | none=>simp[sliceBounds,HT.sIx]
   | some i=>
     simp only[sliceBounds,HT.sIx,Option.getD_none,show(1:Int) > 0 by decide,if_true]
     by_cases h:i < 0
     · simp only[h,if_true] <;> omega
     · simp only[h,if_false] <;> omega
theorem SY (its:List Value) (lo hi:Option Int):slicePick its.toArray lo hi none=((its.drop (HT.sIx its.length 0 lo)).take (HT.sIx its.length its.length hi - HT.sIx its.length 0 lo)).toArray:=by
 obtain⟨h1,h2,h3⟩:=VE lo hi its.toArray.size
 unfold slicePick
 rw[h1,h2,h3]
 simp only[sliceRange_one,pick_run,zJ] <;> rfl
def uE (K:Frg):V->Option Int->Option Int->Hp->VK->Prop:=fun x lo hi H Q=>∃a xs,x = .ref a/\SqL K H a xs/\∀p,H p=none->Q (.ref p) (upd H p (.lst (LO xs lo hi)))
theorem oE:SlR X (uE X.K):=by
 intro pins s σ H x v vl vu lo hi sl Q I rx hs pl pu h
 obtain⟨a,xs,rfl,hx,q⟩:=h
 cases rx
 obtain⟨its,r,ht,hz⟩:=I.list hx
 have hlen:=r.length
 refine⟨"list", _,slot_list_getitem.lookup,ht.isList.typeIs,?_⟩
 refine wpAny_getItem_list_slice ht.isList hs pl pu .none (by simp) ?_ (by rw[zJ] <;> omega)
 rw[SY,← hlen]
 refine⟨.ref s.heap.objs.size,_,I.laid (t':=s.toks) (o:=.lst (LO xs lo hi)) (fun b ob q=>zW _ q) (zR _) ?_,rfl,q _ (I.hok.fresh (zR _))⟩
 exact⟨zN (OG xs lo hi) hz,_,0,(r.drop (HT.sIx xs.length 0 lo)).take (HT.sIx xs.length xs.length hi - HT.sIx xs.length 0 lo),yZ _ rfl⟩
def L0:V->Bool
 | .non=>true
 | .bl _=>true
 | .int _=>true
 | .str _=>true
 | _=>false
def eqV:V->V->Bool
 | .non,.non=>true
 | .bl a,.bl b=>a==b
 | .bl a,.int b=>(if a then 1 else 0)==b
 | .int a,.bl b=>a==(if b then 1 else 0)
 | .int a,.int b=>a==b
 | .str a,.str b=>a==b
 | _,_=>false
theorem uF {A:Around}{s:Shared}{y x:V}{u v:Value}(ry:RelV y u) (rx:RelV x v) (fy:L0 y=true) (fx:L0 x=true):SeqAt.EqAt A s u v (eqV y x):=by
 cases y with
 | non=>
   cases ry
   cases x with
   | non=>cases rx;exact SeqAt.EqAt.same _
   | bl b=>cases rx;exact SeqAt.EqAt.none_bool b
   | int b=>obtain⟨t,rfl⟩:=rx;exact SeqAt.EqAt.none_int b t
   | str b=>obtain⟨t,rfl⟩:=rx;exact SeqAt.EqAt.none_str b t
   | _=>exact absurd (show false=true from fx) nft
 | bl a=>
   cases ry
   cases x with
   | non=>cases rx;exact SeqAt.EqAt.bool_none a
   | bl b=>cases rx;exact SeqAt.EqAt.bool_bool a b
   | int b=>obtain⟨t,rfl⟩:=rx;exact SeqAt.EqAt.bool_int a b t
   | str b=>obtain⟨t,rfl⟩:=rx;exact SeqAt.EqAt.bool_str a b t
   | _=>exact absurd (show false=true from fx) nft
 | int a=>
   obtain⟨t',rfl⟩:=ry
   cases x with
   | non=>cases rx;exact SeqAt.EqAt.int_none a t'
   | bl b=>cases rx;exact SeqAt.EqAt.int_bool a t' b
   | int b=>obtain⟨t,rfl⟩:=rx;exact SeqAt.EqAt.int_int a t' b t
   | str b=>obtain⟨t,rfl⟩:=rx;exact SeqAt.EqAt.int_str a t' b t
   | _=>exact absurd (show false=true from fx) nft
 | str a=>
   obtain⟨t',rfl⟩:=ry
   cases x with
   | non=>cases rx;exact SeqAt.EqAt.str_none a t'
   | bl b=>cases rx;exact SeqAt.EqAt.str_bool a t' b
   | int b=>obtain⟨t,rfl⟩:=rx;exact SeqAt.EqAt.str_int a t' b t
   | str b=>obtain⟨t,rfl⟩:=rx;exact SeqAt.EqAt.str_str a t' b t
   | _=>exact absurd (show false=true from fx) nft
 | _=>exact absurd (show false=true from fy) nft
def eqU (x:V) (u:Value):Bool:=match u with
 | .none=>eqV .non x
 | .bool b=>eqV (.bl b) x
 | .int i _=>eqV (.int i) x
 | .str z _=>eqV (.str z) x
 | _=>false
theorem jJ {x y:V}{u:Value}(r:RelV y u) (f:L0 y=true):eqU x u=eqV y x:=by
 cases y with
 | non=>cases r;rfl
 | bl b=>cases r;rfl
 | int i=>obtain⟨t,rfl⟩:=r;rfl
 | str z=>obtain⟨t,rfl⟩:=r;rfl
 | _=>exact absurd (show false=true from f) nft
theorem VF {x:V}:∀{xs:List V}{us:List Value},Vals xs us->xs.all L0=true->us.any (eqU x)=xs.any fun y=>eqV y x
 | _,_,.nil,_=>rfl
 | y::xs,u::us,.cons r t,f=>by
   rw[List.all_cons,a0V] at f
   rw[b5J,b5J,jJ r f.1,VF t f.2]
theorem QE {A:Around}{s:Shared}{x:V}{v:Value}(rx:RelV x v) (fx:L0 x=true):∀{xs:List V}{us:List Value},Vals xs us->xs.all L0=true->∀u∈us,SeqAt.EqAt A s u v (eqU x u)
 | _,_,.nil,_=>fun u hu=>by cases hu
 | y::xs,u::us,.cons r t,f=>fun u' hu=>by
   rw[List.all_cons,a0V] at f
   rcases yX.mp hu with rfl | hu
   · rw[jJ r f.1];exact uF r rx f.1 fx
   · exact QE rx fx t f.2 u' hu
def inV (x:V) (xs:List V):Bool:=xs.any fun y=>eqV y x
def rIn (K:Frg) (neg:Bool):R2:=fun x y H Q=>∃p xs,y = .ref p/\(SqL K H p xs∨SqT K H p xs)/\L0 x=true/\xs.all L0=true/\Q (.bl (if neg then !inV x xs else inV x xs)) H
theorem gF:OpR X (compareOp .In) (rIn X.K false):=by
 intro pins s σ H x y v u Q I rx ry h
 obtain⟨p,xs,rfl,hq,fx,fs,q⟩:=h
 cases ry
 rcases hq with hq | hq
 · obtain⟨its,r,pl,hz⟩:=I.list hq
   refine SeqAt.in_listAt (eqU x) pl.isList (fun w hw=>QE rx fx r fs w (by simpa using hw)) ⟨.bl _,H,I,rfl,?_⟩
   rw[show its.toArray.any (eqU x)=its.any (eqU x) by simp,VF r fs]
   exact q
 · obtain⟨its,r,pl,hz⟩:=I.tuple hq
   refine SeqAt.in_tupleAt (eqU x) pl (fun w hw=>QE rx fx r fs w (by simpa using hw)) ⟨.bl _,H,I,rfl,?_⟩
   rw[show its.toArray.any (eqU x)=its.any (eqU x) by simp,VF r fs]
   exact q
theorem SZ:BQ X (.type "tuple") (fun xs H Q=>∃p ys,xs=[.ref p]/\((SqL X.K H p ys/\∀l,H l=none->Q (.ref l) (upd H l (.tup ys)))∨(SqT X.K H p ys/\Q (.ref p) H))):=by
 intro pins s σ H xs us Q I r h
 obtain⟨p,ys,rfl,h⟩:=h
 obtain⟨u,rfl,rx⟩:=D0 r
 cases rx
 rcases h with ⟨hq,q⟩ | ⟨hq,q⟩
 · obtain⟨its,r',pl,hz⟩:=I.list hq
   have hlen:=r'.length
   refine call_tuple_list pl.isList (fun h' kp=>?_) (by simp only[zJ] <;> omega)
   have I1:Inv X pins σ H { s with heap:=h' }:=I.kept (t':=s.toks) kp
   have I2:Inv X pins σ (upd H h'.objs.size (.tup ys)) { s with heap:=h'.push { cls:=.type "tuple", data:=.seq its.toArray } }:=
     I1.laid (t':=s.toks) (fun b o e=>zW _ e) (zR _) (show ObjOk X.prog X.w _ _ _ (.tup ys) from ⟨hz,its,r',IsTup.new _ _⟩)
   exact⟨.ref h'.objs.size,_,I2,rfl,q _ (I1.hok.fresh (zR _))⟩
 · obtain⟨its,r',pl,hz⟩:=I.tuple hq
   exact call_tuple_same pl ⟨.ref p,H,I,rfl,q⟩
def tyV (K:Frg) (T:String) (x:V) (H:Hp):Prop:=match x with
 | .str _=>T = "str"
 | .int _=>T = "int"
 | .ref p=>(T = "list" /\ ∃xs,SqL K H p xs)∨(T = "tuple" /\ ∃o,K.lookup p=some o/\o.cls = .type "tuple" /\ o.dict=none) ∨
     (T = "dict" /\ ((∃kvs,H p=some (.dK kvs))∨∃kvs,H p=some (.dT kvs)))∨(T = "set" /\ ∃S n,H p=some (.set S n))
 | _=>False
theorem uG {pins:List (Addr×Obj)}{σ:St}{H:Hp}{s:Shared}{T:String}{x:V}{v:Value}(I:Inv X pins σ H s) (r:RelV x v) (ty:tyV X.K T x H) :
   s.TypeIs v T/\∀a,v = .ref a->∃ob,s.heap.get? a=some ob/\ob.dict=none:=by
 cases x with
 | str z=>
   obtain⟨t,rfl⟩:=r
   cases (show T = "str" from ty)
   exact⟨typeIs_str s z t,fun _ e=>nomatch e⟩
 | int i=>
   obtain⟨t,rfl⟩:=r
   cases (show T = "int" from ty)
   exact⟨typeIs_int s i t,fun _ e=>nomatch e⟩
 | ref p=>
   cases r
   rcases ty with ⟨rfl,xs,hq⟩ | ⟨rfl,o,hk,hc,hd⟩ | ⟨rfl,hk⟩ | ⟨rfl,S,n,hk⟩
   · obtain⟨its,_,pl,_⟩:=I.list hq
     refine⟨pl.isList.typeIs,fun a e=>?_⟩
     cases e
     obtain⟨o,n,e,c,hd,_⟩:=pl
     exact⟨o,e,hd⟩
   · refine⟨⟨o,I.kIn p o hk,hc⟩,fun a e=>?_⟩
     cases e
     exact⟨o,I.kIn _ o hk,hd⟩
   · have z:∃o,s.heap.get? p=some o/\o.ExactDict:=by
       rcases hk with ⟨kvs,hk⟩ | ⟨kvs,hk⟩
       · obtain⟨_,_,_,_,o,_,_,e,ex,_⟩:=I.hok p _ hk
         exact⟨o,e,ex⟩
       · obtain⟨_,_,_,_,o,_,_,e,ex,_⟩:=I.hok p _ hk
         exact⟨o,e,ex⟩
     obtain⟨o,e,ex⟩:=z
     refine⟨⟨o,e,ex.1⟩,fun a e2=>?_⟩
     cases e2
     exact⟨o,e,ex.2.1⟩
   · obtain⟨o,_,_,_,e,ex,_⟩:=I.hok p _ hk
     refine⟨⟨o,e,ex.1⟩,fun a e2=>?_⟩
     cases e2
     exact⟨o,e,ex.2.1⟩
 | _=>exact b4W ty
def tBM (K:Frg) (T:String) (r:V->List V->Hp->VK->Prop) (to:TE) (t:TA):TE:=fun σ H Q=>to σ H fun x H1=>tyV K T x H1/\t σ H1 fun xs H2=>r x xs H2 Q
variable {o e:Expr}{es:List Expr}{to:TE}{t:TA}{name:Str}{apos cpos:Pos}{T id:String}{r:V->List V->Hp->VK->Prop}
theorem z8 (pa:PlainAttrs T) (slot:Slot T name id) (hty:typeOf (.builtin id)=pure (.type "method_descriptor")) (hm:MtR X id r) (ho:PE X o to) (ha:PA X (e::es) t)
   (hbase:attributeBase o name X.env (eval o X.env)=eval o X.env:=by rfl)
   (hfew:((backTo cpos (starEach (e::es) X.env)).all (fun x=>!x.1)&&(backToKw cpos (keywordEach [] X.env)).all (fun x=>x.1.isSome)
     && decide ((e::es).length+([]:List Keyword).length+(if ([]:List Keyword).isEmpty then 0 else 1) < 30))=true:=by rfl)
   (hline:(apos.endLine==cpos.line)=true:=by rfl) (hs:starEach (e::es) X.env=(false,eval e X.env)::starEach es X.env:=by rfl) (hplain:(backTo cpos (starEach es X.env)).any (·.1)=false:=by rfl) :
   PE X (.Call (.Attribute o name apos) (e::es) [] cpos) (tBM X.K T r to t):=by
 intro pins s σ H Q I h
 refine wpAny_Call_method_late hbase hfew hline rfl (thn (ho pins s σ H _ I h) fun v s1 ⟨x,H1,I1,r1,ty,q1⟩=>?_)
 obtain⟨h1,h2⟩:=uG I1 r1 ty
 refine⟨T,id,pa,slot,hty,h1,h2,?_⟩
 have hA:=ha cpos pins s1 σ H1 _ I1 q1
 rw[hs] at hA ⊢
 refine b1X (by show(false||(backTo cpos (starEach es X.env)).any (·.1))=false;rw[hplain] <;> rfl) (b3Z ?_)
 exact thn hA fun us s2 ⟨vs,H2,I2,r2,q2⟩=>hm pins s2 σ H2 x vs v us Q I2 r1 r2 q2
end
def MtM (X:Cx) (id:String) (r:V->List V->Hp->VK->Prop):Prop:=
 ∀(pins:List (Addr×Obj)) (s:Shared) (σ:St) (H:Hp) (x:V) (xs:List V) (v:Value) (us:List Value) (Q:VK),Inv X pins σ H s->RelV x v->Vals xs us->r x xs H Q ->
   wpAny (model X.prog X.w) X.A (call (.builtin id) (v::us)) (EP X pins σ Q) X.xe s
theorem Vals.one:∀{x:V}{us:List Value},Vals [x] us->∃u,us=[u]/\RelV x u
 | _,_,.cons r .nil=>⟨_,rfl,r⟩
section
variable {X:Cx}{pins:List (Addr×Obj)}{σ:St}{H:Hp}{s:Shared}{l b:Addr}{xs ys zs:List V}
theorem Inv.lset {its its':List Value}{n:Nat}{f:Array Value->Array Value}{t':Nat}(I:Inv X pins σ H s) (hH:H l=some (.lst xs))
   (e:s.heap.get? l=some { cls:=.type "list", data:=.seq its.toArray n }) (hf:f its.toArray=its'.toArray) (hv:Vals ys its') (hz:ys.length<=sizeLine) :
   Inv X pins σ (upd H l (.lst ys)) { s with heap:=s.heap.update l (a9X f),toks:=t' }:=by
 have q:=PySem.IsL.update e f
 rw[hf] at q
 refine I.write (x:=l) (e:=l) (by rw[hH];exact trivial) (.inl rfl) (fun b' u hb hu=>(Heap.get?_update_other s.heap (a9X f) (b5Q hb)).trans hu) ⟨_,q⟩ ?_
 exact⟨hz,its',_,hv,q⟩
theorem Inv.lnew {its:List Value}{t':Nat}(I:Inv X pins σ H s) (hv:Vals ys its) (hz:ys.length<=sizeLine) :
   Inv X pins σ (upd H s.heap.objs.size (.lst ys)) { s with heap:=s.heap.push { cls:=.type "list", data:=.seq its.toArray },toks:=t' }:=
 I.laid (fun _ _ q=>zW _ q) (zR _) ⟨hz,its,0,hv,yZ _ rfl⟩
theorem Inv.fresh (I:Inv X pins σ H s):H s.heap.objs.size=none:=I.hok.fresh (zR _)
theorem Inv.lstM (I:Inv X pins σ H s) (hH:H l=some (.lst xs)):xs.length<=sizeLine/\∃(its:List Value) (n:Nat),Vals xs its/\xs.length=its.length/\s.heap.get? l=some { cls:=.type "list", data:=.seq its.toArray n }:=by
 obtain⟨z,its,n,r,e⟩:=I.hok l _ hH
 exact⟨z,its,n,r,r.length,e⟩
end
section
variable {X:Cx}
def VG:V->List V->Hp->VK->Prop:=fun x vs H Q=>∃l xs y,x = .ref l/\vs=[y]/\H l=some (.lst xs)/\xs.length < sizeLine/\Q .non (upd H l (.lst (xs++[y])))
theorem U3:MtM X "list.append" VG:=by
 intro pins s σ H x vs v us Q I rx rv h
 obtain⟨l,xs,y,rfl,rfl,hH,hz,q⟩:=h
 cases rx
 obtain⟨u,rfl,ru⟩:=rv.one
 obtain⟨z,its,n,r,hl,e⟩:=I.lstM hH
 refine call_meets F.slot_list_append ⟨_,e,rfl⟩ F.entry_list_append (F.args_list_append_2 _ _) (PySem.list_append l its.toArray n u (by rw[zJ];omega)) ⟨e,?_⟩
 refine⟨.non,_,I.lset (its':=its++[u]) hH e (by simp) (r.append (.cons ru .nil)) ?_,rfl,q⟩
 rw[yY,List.length_singleton]
 omega
end
section
variable {κ:Type}[DecidableEq κ]
def FP (kvs:List (κ×V)) (k:κ):Option V:=(kvs.find? fun kv=>decide (kv.1=k)).map (·.2)
def EU (kvs:List (κ×V)) (k:κ) (v:V):List (κ×V):=
 if (kvs.any fun kv=>decide (kv.1=k))=true then kvs.map (fun kv=>if kv.1=k then (kv.1,v) else kv) else kvs++[(k,v)]
def MF (kvs:List (κ×V)) (k:κ):List (κ×V):=kvs.filter fun kv=>decide (kv.1≠k)
theorem MG {p:κ×V}{r:List (κ×V)}{k:κ}(e:p.1=k):FP (p::r) k=some p.2:=by simp[FP,a9W,e]
theorem J5 {p:κ×V}{r:List (κ×V)}{k:κ}(e:¬p.1=k):FP (p::r) k=FP r k:=by simp[FP,a9W,e]
theorem XO (k:κ):∀kvs:List (κ×V),(kvs.any fun kv=>decide (kv.1=k))=(FP kvs k).isSome
 | []=>rfl
 | p::r=>by
   rw[b5J]
   by_cases e:p.1=k
   · simp only[MG e,decide_eq_true e,Bool.true_or,Option.isSome_some]
   · rw[J5 e,decide_eq_false e,Bool.false_or];exact XO k r
theorem G8 (kvs:List (κ×V)) (k:κ) (v:V):(EU kvs k v).length<=kvs.length+1:=by
 unfold EU
 split
 · rw[zX];omega
 · rw[yY,yR,a8X];omega
theorem RelO.isSome_eq {o:Option V}{u:Option Value}(r:RelO o u):o.isSome=u.isSome:=by
 cases o with
 | none=>cases u with
   | none=>rfl
   | some _=>exact(show False from r).elim
 | some _=>cases u with
   | none=>exact(show False from r).elim
   | some _=>rfl
theorem RelO.getD {o:Option V}{u:Option Value}{d:V}{d':Value}(r:RelO o u) (rd:RelV d d'):RelV (o.getD d) (u.getD d'):=by
 cases o with
 | none=>cases u with
   | none=>exact rd
   | some _=>exact(show False from r).elim
 | some _=>cases u with
   | none=>exact(show False from r).elim
   | some _=>exact r
theorem KV.val {kvs:List (κ×V)}{vs:List (κ×Value)}(r:KV kvs vs) (k:κ):RelO (FP kvs k) (valueAt vs k):=by
 unfold KV at r
 induction r with
 | nil=>exact a8W
 | @cons p q ps qs h t ih=>
   obtain⟨h1,h2⟩:=h
   by_cases e:p.1=k
   · have e':q.1=k:=h1.symm.trans e
     have b:valueAt (q::qs) k=some q.2:=by simp[valueAt,a9W,e']
     rw[MG e,b];exact h2
   · have e':¬q.1=k:=fun z=>e (h1.trans z)
     have b:valueAt (q::qs) k=valueAt qs k:=by simp[valueAt,a9W,e']
     rw[J5 e,b];exact ih
theorem KV.any {kvs:List (κ×V)}{vs:List (κ×Value)}(r:KV kvs vs) (k:κ):(kvs.any fun kv=>decide (kv.1=k))=vs.any fun kv=>decide (kv.1=k):=by
 unfold KV at r
 induction r with
 | nil=>rfl
 | cons h t ih=>rw[b5J,b5J,ih,h.1]
theorem KV.repl {kvs:List (κ×V)}{vs:List (κ×Value)}(r:KV kvs vs) (k:κ) {y:V}{u:Value}(ry:RelV y u) :
   KV (kvs.map fun kv=>if kv.1=k then (kv.1,y) else kv) (vs.map fun kv=>if kv.1=k then (kv.1,u) else kv):=by
 unfold KV at r ⊢
 induction r with
 | nil=>exact .nil
 | @cons p q ps qs h t ih=>
   rw[zI,zI]
   refine .cons ?_ ih
   obtain⟨h1,h2⟩:=h
   by_cases e:p.1=k
   · rw[if_pos e,if_pos (h1.symm.trans e)];exact⟨h1,ry⟩
   · rw[if_neg e,if_neg (fun z=>e (h1.trans z))];exact⟨h1,h2⟩
theorem KV.put {kvs:List (κ×V)}{vs:List (κ×Value)}(r:KV kvs vs) (k:κ) {y:V}{u:Value}(ry:RelV y u):KV (EU kvs k y) (stored vs k u):=by
 unfold EU stored
 rw[r.any k]
 by_cases e:(vs.any fun kv=>decide (kv.1=k))=true
 · rw[if_pos e,if_pos e];exact r.repl k ry
 · rw[if_neg e,if_neg e];exact Paired.snoc r ⟨rfl,ry⟩
theorem KV.drop {kvs:List (κ×V)}{vs:List (κ×Value)}(r:KV kvs vs) (k:κ):KV (MF kvs k) (without vs k):=by
 unfold KV at r ⊢
 unfold MF without
 induction r with
 | nil=>exact .nil
 | @cons p q ps qs h t ih=>
   obtain⟨h1,h2⟩:=h
   rw[a8V,a8V]
   by_cases e:p.1=k
   · have a:¬decide (p.1≠k)=true:=by simp[e]
     have b:¬decide (q.1≠k)=true:=by simp[h1.symm.trans e]
     rw[if_neg a,if_neg b];exact ih
   · have e':¬q.1=k:=fun z=>e (h1.trans z)
     have a:decide (p.1≠k)=true:=by simp[e]
     have b:decide (q.1≠k)=true:=by simp[e']
     rw[if_pos a,if_pos b];exact .cons ⟨h1,h2⟩ ih
theorem KV.length {kvs:List (κ×V)}{vs:List (κ×Value)}(r:KV kvs vs):kvs.length=vs.length:=Paired.length r
theorem XQ (kvs:List (κ×V)) (k:κ):(MF kvs k).length<=kvs.length:=yJ _ _
end
theorem L1 {P:Program}{w:World}{k:Key}{u:Value}(r:RelV (kV k) u):(AM P w).is k u=true:=by
 cases k with
 | inl i=>obtain⟨t,e⟩:=(show ∃t,u=Value.int i t from r);subst e;exact XE P w i t
 | inr x=>obtain⟨t,e⟩:=(show ∃t,u=b8Z x t from r);subst e;exact OE P w x t
theorem U4 {P:Program}{w:World}:∀{ks:List Key}{us:List Value},Vals (ks.map kV) us->ItemsAre (AM P w) ks us
 | [],_,r=>by rw[a7W] at r;cases r;exact .nil
 | k::ks,_,r=>by
   rw[zI] at r
   cases r with
   | cons h t=>exact .cons (L1 h) (U4 t)
abbrev KT (H:Hp):List (List Key×V)->List (List Key×Addr×Value)->Prop:=Paired fun p q=>p.1=q.1/\H q.2.1=some (.tup (p.1.map kV))/\RelV p.2 q.2.2
theorem KT.val {H:Hp}{kvs:List (List Key×V)}{xs:List (List Key×Addr×Value)}(r:KT H kvs xs) (k:List Key):RelO (FP kvs k) ((atKey xs k).map (·.2)):=by
 induction r with
 | nil=>exact a8W
 | @cons p q ps qs h t ih=>
   obtain⟨h1,_,h2⟩:=h
   by_cases e:p.1=k
   · have e':q.1=k:=h1.symm.trans e
     have b:atKey (q::qs) k=some q.2:=by simp[atKey,a9W,e']
     rw[MG e,b];exact h2
   · have e':¬q.1=k:=fun z=>e (h1.trans z)
     have b:atKey (q::qs) k=atKey qs k:=by simp[atKey,a9W,e']
     rw[J5 e,b];exact ih
theorem KT.repl {H:Hp}{kvs:List (List Key×V)}{xs:List (List Key×Addr×Value)}(r:KT H kvs xs) (k:List Key) {y:V}{u:Value}(ry:RelV y u) :
   KT H (kvs.map fun kv=>if kv.1=k then (kv.1,y) else kv) (xs.map (putAt k u)):=by
 induction r with
 | nil=>exact .nil
 | @cons p q ps qs h t ih=>
   rw[zI,zI]
   refine .cons ?_ ih
   obtain⟨h1,h2,h3⟩:=h
   unfold putAt
   by_cases e:p.1=k
   · rw[if_pos e,if_pos (h1.symm.trans e)];exact⟨h1,h2,ry⟩
   · rw[if_neg e,if_neg (fun z=>e (h1.trans z))];exact⟨h1,h2,h3⟩
theorem KT.put {H:Hp}{kvs:List (List Key×V)}{xs:List (List Key×Addr×Value)}(r:KT H kvs xs) (k:List Key) {b:Addr}{y:V}{u:Value}(hb:H b=some (.tup (k.map kV))) (ry:RelV y u) :
   KT H (EU kvs k y) (storedH xs k b u):=by
 have e:(kvs.any fun kv=>decide (kv.1=k))=(atKey xs k).isSome:=by
   rw[XO,(r.val k).isSome_eq,c0J]
 unfold EU storedH
 rw[e]
 by_cases q:(atKey xs k).isSome=true
 · rw[if_pos q,if_pos q];exact r.repl k ry
 · rw[if_neg q,if_neg q];exact Paired.snoc r ⟨rfl,hb,ry⟩
theorem KT.keeps {H H':Hp}{kvs:List (List Key×V)}{xs:List (List Key×Addr×Value)}(r:KT H kvs xs) (ht:∀b ys,H b=some (.tup ys)->H' b=some (.tup ys)):KT H' kvs xs:=
 Paired.mapP r fun _ _ z=>⟨z.1,ht _ _ z.2.1,z.2.2⟩
section
variable {P:Program}{w:World}{H:Hp}{h:Heap}{a:Addr}
theorem sG {u:HO}(ok:HOk P w H h) (e:Rd H a u):ObjOk P w H h a u:=e.ok ok
theorem MH {kvs:List (Key×V)}(ok:HOk P w H h) (e:Rd H a (.dK kvs)):kvs.length<=sizeLine/\(a==sysModules)=false/\∃vs,KV kvs vs/\h.DictOf (AM P w) a vs:=
 show ObjOk P w H h a (.dK kvs) from sG ok e
theorem XR {kvs:List (Key×V)}(ok:HOk P w H h) (e:H a=some (.dK kvs)):kvs.length<=sizeLine/\(a==sysModules)=false/\∃vs,KV kvs vs/\h.DictOf (AM P w) a vs:=MH ok (.inl e)
theorem QF {ks:List Key}(ok:HOk P w H h) (e:H a=some (.tup (ks.map kV))):(tupleKind (AM P w)).is h ks a:=by
 obtain⟨_,its,r,o,h1,h2,n,h3⟩:=(show ObjOk P w H h a (.tup (ks.map kV)) from ok a _ e)
 exact⟨o,its.toArray,n,h1,h2,h3,by simpa using U4 r⟩
theorem U5 {kvs:List (List Key×V)}(ok:HOk P w H h) (e:Rd H a (.dT kvs)):kvs.length<=sizeLine/\(a==sysModules)=false /\
   ∃xs,KT H kvs xs/\h.DictOfH (tupleKind (AM P w)) a xs:=by
 obtain⟨z,y,xs,r,o,es,ep,h1,h2,h3,h4,h5⟩:=(show ObjOk P w H h a (.dT kvs) from sG ok e)
 refine⟨z,y,xs,r,o,es,ep,h1,h2,h3,h4,fun x hx=>?_,h5⟩
 have all:∀{l:List (List Key×V)}{m:List (List Key×Addr×Value)},KT H l m->∀x∈m,(tupleKind (AM P w)).is h x.1 x.2.1:=by
   intro l m q
   induction q with
   | nil=>intro x hx;exact nomatch hx
   | @cons p q ps qs hq t ih=>
     intro x hx
     rcases yX.mp hx with e | hx
     · subst e
       exact QF ok (by rw[← hq.1];exact hq.2.1)
     · exact ih x hx
 exact all r x hx
theorem z9 {kvs:List (List Key×V)}(ok:HOk P w H h) (e:H a=some (.dT kvs)):kvs.length<=sizeLine/\(a==sysModules)=false /\
   ∃xs,KT H kvs xs/\h.DictOfH (tupleKind (AM P w)) a xs:=U5 ok (.inl e)
end
def XS (H:Hp) (a:Addr) (y:V) (r:Option V):Prop:=
 (∃kvs k,Rd H a (.dK kvs)/\y=kV k/\r=FP kvs k)∨∃kvs k b,Rd H a (.dT kvs)/\y = .ref b/\H b=some (.tup (k.map kV))/\r=FP kvs k
def zA (H:Hp) (a:Addr) (y v:V) (H':Hp):Prop:=
 (∃kvs k,H a=some (.dK kvs)/\y=kV k/\kvs.length < sizeLine/\H'=upd H a (.dK (EU kvs k v))) ∨
 ∃kvs k b,H a=some (.dT kvs)/\y = .ref b/\H b=some (.tup (k.map kV))/\kvs.length < sizeLine/\H'=upd H a (.dT (EU kvs k v))
section
variable {X:Cx}{pins:List (Addr×Obj)}{σ:St}{H:Hp}{s:Shared}{a:Addr}{y v:V}{u r:Value}{o:Option V}{A:Around}{E:Value->Shared->Prop}
theorem Inv.big (I:Inv X pins σ H s):sysModules < s.heap.objs.size:=by
 have h:mainGlobals < s.heap.objs.size:=(I.mod.glob.keeps I.bk).lt
 exact Nat.lt_trans (by decide) h
theorem gG {Q:Value->Shared->Prop}(hu:A.units+1 < cLine) (I:Inv X pins σ H s) (g:XS H a y (some v)) (ry:RelV y u) (h:∀w' s',Inv X pins σ H s'->RelV v w'->Q w' s') :
   wpAny (model X.prog X.w) A (getItem (.ref a) u) Q E s:=by
 rcases g with ⟨kvs,k,e,ey,l⟩ | ⟨kvs,k,b,e,ey,eb,l⟩
 · subst ey
   obtain⟨z,hd,vs,rel,dd⟩:=MH I.hok e
   obtain⟨w',hw,rw'⟩:=RelO.some_of (v:=v) (o:=valueAt vs k) (by rw[l];exact rel.val k)
   exact wpAny_getItem_of (L1 ry) dd.mapOf hw (h w' _ (I.tok _) rw')
 · subst ey
   cases (show u=a0Z b from ry)
   obtain⟨z,hd,xs,rel,dd⟩:=U5 I.hok e
   obtain⟨w',hw,rw'⟩:=RelO.some_of (v:=v) (o:=(atKey xs k).map (·.2)) (by rw[l];exact rel.val k)
   obtain⟨p,hp,hp2⟩:=Option.map_eq_some_iff.mp hw
   refine wpAny_getItem_heap (tupleKind_room_in1 hu) (QF I.hok eb) dd hp ?_
   rw[hp2]
   exact h w' _ (I.tok _) rw'
theorem zE {Q:Value->Shared->Prop}(hu:A.units+1 < cLine) (I:Inv X pins σ H s) (g:XS H a y o) (ry:RelV y u) (h:∀s',Inv X pins σ H s'->Q (.bool o.isSome) s') :
   wpAny (model X.prog X.w) A (compareOp .In u (.ref a)) Q E s:=by
 rcases g with ⟨kvs,k,e,ey,l⟩ | ⟨kvs,k,b,e,ey,eb,l⟩
 · subst ey
   obtain⟨z,hd,vs,rel,dd⟩:=MH I.hok e
   refine wpAny_in_of (L1 ry) hd dd.mapOf ?_
   rw[← (rel.val k).isSome_eq,← l]
   exact h _ (I.tok _)
 · subst ey
   cases (show u=a0Z b from ry)
   obtain⟨z,hd,xs,rel,dd⟩:=U5 I.hok e
   refine wpAny_in_heap (tupleKind_room_in1 hu) (QF I.hok eb) hd dd ?_
   have q:=(rel.val k).isSome_eq
   rw[c0J] at q
   rw[← q,← l]
   exact h _ (I.tok _)
theorem KG {h':Heap}{t':Nat}{ob:HO}(I:Inv X pins σ H s) (mu:Mut (H a)) (hs:Heap.SameBut a s.heap h') (he:∃q,h'.get? a=some q) (new:ObjOk X.prog X.w (upd H a ob) h' a ob) :
   Inv X pins σ (upd H a ob) { s with heap:=h',toks:=t' }:=
 I.write (x:=a) (e:=a) mu (.inl rfl) (fun b q hb z=>(hs.2 b hb).trans z) he new
theorem QG {P:Program}{w:World}{H':Hp}{h':Heap}{kvs:List (Key×V)}{vs:List (Key×Value)}(z:kvs.length<=sizeLine) (hd:(a==sysModules)=false) (rel:KV kvs vs) (dd:h'.DictOf (AM P w) a vs) :
   ObjOk P w H' h' a (.dK kvs):=⟨z,hd,vs,rel,dd⟩
theorem gH {H':Hp}{Q:Unit->Shared->Prop}(hu:A.units+1 < cLine) (I:Inv X pins σ H s) (g:zA H a y v H') (ry:RelV y u) (rv:RelV v r) (h:∀s',Inv X pins σ H' s'->Q () s') :
   wpAny (model X.prog X.w) A (setItem (.ref a) u r) Q E s:=by
 rcases g with ⟨kvs,k,e,ey,l,eH⟩ | ⟨kvs,k,b,e,ey,eb,l,eH⟩
 · subst ey eH
   obtain⟨z,hd,vs,rel,dd⟩:=XR I.hok e
   have hz:vs.length<=sizeLine:=by rw[← rel.length];exact z
   have hl:(EU kvs k v).length<=sizeLine:=by have:=G8 kvs k v;omega
   refine wpAny_setItem_pairs (hsz:=hz) (L1 ry) dd fun h' dd' hs=>h _ ?_
   have he:∃q,h'.get? a=some q:=let ⟨q,_,_,hq,_⟩:=dd';⟨q,hq⟩
   exact KG I (by rw[e];exact a8W) hs he (QG hl hd (rel.put k rv) dd')
 · subst ey eH
   cases (show u=a0Z b from ry)
   obtain⟨z,hd,xs,rel,dd⟩:=z9 I.hok e
   have hz:xs.length<=sizeLine:=by rw[← Paired.length rel];exact z
   have hl:(EU kvs k v).length<=sizeLine:=by have:=G8 kvs k v;omega
   refine wpAny_setItem_heap (hsz:=hz) (tupleKind_room_in1 hu) (QF I.hok eb) dd fun h' dd' hs=>h _ ?_
   obtain⟨q,es,ep,hq,h2,h3,h4,_,h5⟩:=dd'
   refine KG I (by rw[e];exact a8W) hs ⟨q,hq⟩ ⟨hl,hd,_,(rel.put k eb rv).keeps fun c ys ec=>?_,q,es,ep,hq,h2,h3,h4,h5⟩
   rw[AN (xN ec e (fun z=>nomatch z))]
   exact ec
end
section
variable {X:Cx}{pins:List (Addr×Obj)}{σ:St}{H:Hp}{s:Shared}{a:Addr}{kvs:List (Key×V)}{k:Key}{u:Value}{A:Around}{E:Value->Shared->Prop}
theorem gI {Q:Unit->Shared->Prop}(I:Inv X pins σ H s) (e:H a=some (.dK kvs)) (ry:RelV (kV k) u) (l:(FP kvs k).isSome=true) (h:∀s',Inv X pins σ (upd H a (.dK (MF kvs k))) s'->Q () s') :
   wpAny (model X.prog X.w) A (delItem (.ref a) u) Q E s:=by
 obtain⟨z,hd,vs,rel,dd⟩:=XR I.hok e
 refine wpAny_delItem_slot dd.typeIs (by decide) PySem.F.slot_dict_delitem
   (call_meetsIn PySem.F.slot_dict_delitem dd.typeIs PySem.F.entry_dict_delitem (PySem.F.args_dict_delitem_2 _ _) (meets_dict_delitem_pairs (AM X.prog X.w) a (L1 ry)) ⟨vs,dd,by rw[← rel.length];exact z,by rw[← (rel.val k).isSome_eq];exact l,fun h' dd' hs=>h _ ?_⟩)
 have he:∃q,h'.get? a=some q:=let ⟨q,_,_,hq,_⟩:=dd';⟨q,hq⟩
 exact KG I (by rw[e];exact a8W) hs he (QG (zN (XQ kvs k) z) hd (rel.drop k) dd')
theorem zK {v:V}{more:List Value}{Q:Value->Shared->Prop}(I:Inv X pins σ H s) (e:H a=some (.dK kvs)) (ry:RelV (kV k) u) (l:FP kvs k=some v) (hm:more=[]∨∃x,more=[x])
   (h:∀w' s',Inv X pins σ (upd H a (.dK (MF kvs k))) s'->RelV v w'->Q w' s'):wpAny (model X.prog X.w) A (call (.builtin "dict.pop") (.ref a::u::more)) Q E s:=by
 obtain⟨z,hd,vs,rel,dd⟩:=XR I.hok e
 obtain⟨w',hw,rw'⟩:=RelO.some_of (v:=v) (o:=valueAt vs k) (by rw[← l];exact rel.val k)
 have hp:(keyPart u).isSome=true:=by
   cases k with
   | inl i=>obtain⟨t,q⟩:=(show ∃t,u=Value.int i t from ry);subst q;rfl
   | inr x=>obtain⟨t,q⟩:=(show ∃t,u=b8Z x t from ry);subst q;rfl
 have ha:argsOk "dict.pop" ⟨.ref a::u::more,[]⟩:=by
   rcases hm with q | ⟨x,q⟩
   · subst q;exact PySem.F.args_dict_pop_2 _ _
   · subst q;exact PySem.F.args_dict_pop_3 _ _ _
 refine call_meetsIn PySem.F.slot_dict_pop dd.typeIs PySem.F.entry_dict_pop ha (meets_dict_pop_there (AM X.prog X.w) a (L1 ry) more hm hp)
   ⟨vs,w',dd,by rw[← rel.length];exact z,hw,fun h' dd' hs=>h w' _ ?_ rw'⟩
 have he:∃q,h'.get? a=some q:=let ⟨q,_,_,hq,_⟩:=dd';⟨q,hq⟩
 exact KG I (by rw[e];exact a8W) hs he (QG (zN (XQ kvs k) z) hd (rel.drop k) dd')
end
def zO (i:Expr):Prop:=∀ov iv,subscripted i false ov iv=operate [ov,iv] (getItem ov iv)
theorem oF {prog:Program}{w:World}{A:Around}{E:Value->Shared->Prop}{s:Shared}{env:Env}{value slice:Expr}{pos:Pos}{T id:String}{Q:Value->Shared->Prop}
   (hl:typeLookup (.type T) "__getitem__"=pure (some (.builtin id))) (hs:zO slice)
   (h:wpAny (model prog w) A (eval value env) (fun o s₁=>wpAny (model prog w) A (eval slice env) (fun i s₂=>s₂.TypeIs o T/\wpAny (model prog w) A (getItem o i) Q E s₂) E s₁) E s) :
   wpAny (model prog w) A (eval (.Subscript value slice pos) env) Q E s:=by
 refine Subscript_ (wpAny_mono h (fun o s₁ h₁=>wpAny_mono h₁ (fun i s₂ h₂=>?_) fun _ _ x=>x) fun _ _ x=>x)
 obtain⟨hT,h₂⟩:=h₂
 unfold subscriptTail
 refine zZ ?_
 rw[getitemInPython_of_ne hT.not_modules]
 refine zZ (wpAny_specialOf hT hl ?_)
 have fin:wpAny (model prog w) A (subscripted slice false o i) (fun r s₃=>wpAny (model prog w) A (letTemporaryGo value o r >>= fun _=>pure r) Q E s₃) E s₂:=by
   rw[hs o i]
   exact wpAny_operating (wpAny_mono h₂ (fun r s₃ h₃=>zZ (wpAny_letTemporaryGo (zY h₃))) fun _ _ x=>x)
 first
   | exact zY (zZ fin)
   | exact zZ (zY (zZ fin))
   | exact zZ fin
theorem XT {X:Cx}{pins:List (Addr×Obj)}{σ:St}{H:Hp}{s:Shared}{a:Addr}{y:V}{o:Option V}(I:Inv X pins σ H s) (g:XS H a y o):s.TypeIs (.ref a) "dict" := by
 rcases g with ⟨kvs,k,e,_,_⟩ | ⟨kvs,k,b,e,_,_,_⟩
 · obtain⟨_,_,vs,_,dd⟩:=MH I.hok e
   exact dd.typeIs
 · obtain⟨_,_,xs,_,dd⟩:=U5 I.hok e
   exact dd.typeIs
def sH (td ty:TE):TE:=fun σ H Q=>td σ H fun x H1=>ty σ H1 fun y H2=>∃a v,x = .ref a/\XS H2 a y (some v)/\Q v H2
def zS (ty td:TE):TE:=fun σ H Q=>ty σ H fun y H1=>td σ H1 fun x H2=>∃a o,x = .ref a/\XS H2 a y o/\Q (.bl o.isSome) H2
def sI (td ty tv:TE):TS:=fun D σ H=>tv σ H fun v H1=>td σ H1 fun x H2=>ty σ H2 fun y H3=>∃a H4,x = .ref a/\zA H3 a y v H4/\D.nx σ H4
def sJ (td ty:TE):TS:=fun D σ H=>td σ H fun x H1=>ty σ H1 fun y H2=>∃a kvs k,x = .ref a/\H2 a=some (.dK kvs)/\y=kV k/\(FP kvs k).isSome=true/\D.nx σ (upd H2 a (.dK (MF kvs k)))
section
variable {X:Cx}{o i e value:Expr}{pos pos' tpos:Pos}{td ty tv:TE}
theorem PY (hu:X.A.units+1 < cLine) (ho:PE X o td) (hi:PE X i ty) (hs:zO i):PE X (.Subscript o i pos) (sH td ty):=by
 intro pins s σ H Q I h
 refine oF PySem.F.slot_dict_getitem.lookup hs (thn (ho pins s σ H _ I h) fun u s1 ⟨x,H1,I1,rx,q1⟩=>thn (hi pins s1 σ H1 _ I1 q1) fun iv s2 ⟨y,H2,I2,ry,a,v,ex,g,q2⟩=>?_)
 subst ex
 obtain rfl:u=a0Z a:=rx
 exact⟨XT I2 g,gG hu I2 g ry fun w' s3 I3 rw'=>⟨v,H2,I3,rw',q2⟩⟩
theorem uH (hu:X.A.units+1 < cLine) (hi:PE X i ty) (ho:PE X o td):PC X .In i o (zS ty td):=by
 intro pins s σ H Q I h
 refine thn (hi pins s σ H _ I h) fun iv s1 ⟨y,H1,I1,ry,q1⟩=>thn (ho pins s1 σ H1 _ I1 q1) fun u s2 ⟨x,H2,I2,rx,a,ov,ex,g,q2⟩=>?_
 subst ex
 obtain rfl:u=a0Z a:=rx
 exact zE hu I2 g ry fun s3 I3=>⟨.bl ov.isSome,H2,I3,rfl,q2⟩
theorem dE (hu:X.A.units+1 < cLine) (ho:PE X o td) (hi:PE X i ty) (hv:PE X value tv) (hs:swapsWith value (some (.Subscript o i pos')) pos.line X.env=pure false) :
   PS X (.Assign [.Subscript o i pos'] value pos) (sI td ty tv):=by
 intro pins s σ H D I h
 refine wpAny_Assign_Subscript (thn (hv pins s σ H _ I h) fun r s1 ⟨v,H1,I1,rv,q1⟩=>thn (ho pins s1 σ H1 _ I1 q1) fun u s2 ⟨x,H2,I2,rx,q2⟩=>thn (hi pins s2 σ H2 _ I2 q2) fun iv s3 ⟨y,H3,I3,ry,a,H4,ex,g,q3⟩=>?_) hs
 subst ex
 obtain rfl:u=a0Z a:=rx
 exact gH hu I3 g ry rv fun s4 I4=>⟨σ,H4,I4,q3⟩
theorem oG (ho:PE X o td) (hi:PE X i ty):PS X (.Delete [.Subscript o i tpos] pos) (sJ td ty):=by
 intro pins s σ H D I h
 refine wpAny_Delete (wpAny_deleteEach_cons (wpAny_delete_Subscript (thn (ho pins s σ H _ I h) fun u s1 ⟨x,H1,I1,rx,q1⟩=>thn (hi pins s1 σ H1 _ I1 q1) fun iv s2 ⟨y,H2,I2,ry,a,kvs,k,ex,e,ey,l,q2⟩=>?_)))
 subst ex ey
 obtain rfl:u=a0Z a:=rx
 exact gI I2 e ry l fun s3 I3=>wpAny_deleteEach_nil ⟨σ,_,I3,q2⟩
end
theorem XU {P:Program}{w:World}{H:Hp}(h:Heap) (hb:sysModules < h.objs.size):ObjOk P w H (h.push { cls:=.type "dict", data:=.dict #[] }) h.objs.size (.dK []):=
 ⟨xT _,beq_eq_false_iff_ne.mpr (b5Q (zC hb)),[],.nil,Heap.DictOf.new h⟩
def VH:List (TE×TE)->St->Hp->(List (V×V)->Hp->Prop)->Prop
 | [],_,H,Q=>Q [] H
 | (tk,tv)::r,σ,H,Q=>tk σ H fun x H1=>tv σ H1 fun y H2=>VH r σ H2 fun ps H3=>Q ((x,y)::ps) H3
abbrev VV:List (V×V)->List (Value×Value)->Prop:=Paired fun p q=>RelV p.1 q.1/\RelV p.2 q.2
def PPs (X:Cx) (pos:Pos) (keys:List (Option Expr)) (values:List Expr) (trs:List (TE×TE)):Prop:=
 ∀(pins:List (Addr×Obj)) (s:Shared) (σ:St) (H:Hp) (Q:List (V×V)->Hp->Prop),Inv X pins σ H s->VH trs σ H Q ->
   wpAny (model X.prog X.w) X.A (evalPairs (pairTrees keys values X.env pos)) (fun vs s'=>∃ps H',Inv X pins σ H' s'/\VV ps vs/\Q ps H') X.xe s
theorem oH {X:Cx}{pos:Pos}:PPs X pos [] [] []:=fun pins s σ H Q I h=>pairTrees_nil_walk ⟨[],H,I,.nil,h⟩
theorem XV {X:Cx}{pos:Pos}{k v:Expr}{ks:List (Option Expr)}{vs:List Expr}{tk tv:TE}{trs:List (TE×TE)}(hk:PE X k tk) (hv:PE X v tv) (hr:PPs X pos ks vs trs) :
   PPs X pos (some k::ks) (v::vs) ((tk,tv)::trs):=fun pins s σ H Q I h=>
 pairTrees_cons_walk (thn (hk pins s σ H _ I h) fun u s1 ⟨x,H1,I1,rx,q1⟩=>thn (hv pins s1 σ H1 _ I1 q1) fun w2 s2 ⟨y,H2,I2,ry,q2⟩=>
   thn (hr pins s2 σ H2 _ I2 q2) fun ws s3 ⟨ps,H3,I3,rel,q3⟩=>⟨(x,y)::ps,H3,I3,.cons ⟨rx,ry⟩ rel,q3⟩)
def J6 (kvs more:List (Key×V)):List (Key×V):=more.foldl (fun acc kv=>EU acc kv.1 kv.2) kvs
theorem KV.merge:∀{more:List (Key×V)}{rs:List (Key×Value)}{kvs:List (Key×V)}{vs:List (Key×Value)},KV more rs->KV kvs vs->KV (J6 kvs more) (merged vs rs):=by
 intro more rs kvs vs r
 unfold KV at r
 induction r generalizing kvs vs with
 | nil=>intro q;exact q
 | @cons p q ps qs h t ih=>
   intro r0
   have e:KV (EU kvs p.1 p.2) (stored vs q.1 q.2):=by
     have:=r0.put p.1 h.2
     rw[← h.1];exact this
   exact ih e
theorem L3:∀(more kvs:List (Key×V)),(J6 kvs more).length<=kvs.length+more.length
 | [],kvs=>by show kvs.length<=kvs.length+0;omega
 | p::r,kvs=>by
   have h1:=L3 r (EU kvs p.1 p.2)
   have h2:=G8 kvs p.1 p.2
   show(J6 (EU kvs p.1 p.2) r).length<=_
   rw[yR];omega
theorem QH {P:Program}{w:World}:∀{kvs:List (Key×V)}{ws:List (Value×Value)},VV (kvs.map fun kv=>(kV kv.1,kv.2)) ws->∃rs,Carries (AM P w) ws rs/\KV kvs rs
 | [],_,r=>by rw[a7W] at r;cases r;exact⟨[],a8W,.nil⟩
 | p::kvs,_,r=>by
   rw[zI] at r
   cases r with
   | @cons a b as bs h t=>
     obtain⟨rs,c,q⟩:=QH (P:=P) (w:=w) t
     obtain⟨b1,b2⟩:=b
     exact⟨(p.1,b2)::rs,⟨L1 h.1,rfl,c⟩,.cons ⟨rfl,h.2⟩ q⟩
def sK (trs:List (TE×TE)):TE:=fun σ H Q=>∀p,H p=none->VH trs σ (upd H p (.dK [])) fun ps H2=>H2 p=some (.dK [])/\∃kvs:List (Key×V),ps=kvs.map (fun kv=>(kV kv.1,kv.2))/\kvs.length<=15/\Q (.ref p) (upd H2 p (.dK (J6 [] kvs)))
theorem oI {X:Cx}{pos:Pos}{keys:List (Option Expr)}{values:List Expr}{trs:List (TE×TE)}(h:PPs X pos keys values trs) (hall:keys.all (·.isSome)=true) (hl:keys.length=values.length) (h0:keys≠[])
   (h15:keys.length<=15):PE X (.Dict keys values pos) (sK trs):=by
 intro pins s σ H Q I q
 have hn:=I.hok.fresh (zR s.heap.objs.size)
 have I1:=I.laid (a:=s.heap.objs.size) (o:=.dK []) (h':=s.heap.push { cls:=.type "dict", data:=.dict #[] }) (t':=s.toks) (fun _ _ q=>zW _ q) (zR _) (XU s.heap I.big)
 refine wpAny_Dict_walk (knd:=AM X.prog X.w) hall hl h0 h15 (thn (h pins _ σ _ _ I1 (q _ hn)) fun ws s2 ⟨ps,H2,I2,rel,e,kvs,ep,lk,q2⟩=>?_)
 subst ep
 obtain⟨rs,c,rk⟩:=QH (P:=X.prog) (w:=X.w) rel
 obtain⟨z,hd,vs0,r0,dd⟩:=XR I2.hok e
 cases r0
 refine⟨rs,c,dd,fun h' dd' hs=>⟨.ref s.heap.objs.size,_,?_,rfl,q2⟩⟩
 have hz:(J6 [] kvs).length<=sizeLine:=by
   have h1:=L3 kvs []
   rw[a8X] at h1
   rw[sizeLine_eq];omega
 have he:∃q,h'.get? s.heap.objs.size=some q:=let ⟨q,_,_,hq,_⟩:=dd';⟨q,hq⟩
 exact KG I2 (by rw[e];exact a8W) hs he (QG hz hd (rk.merge .nil) dd')
structure M1 (X:Cx) (o:Expr) (m:Str) (apos:Pos) (e:Expr) (cpos:Pos):Prop where
 base:attributeBase o m X.env (eval o X.env)=eval o X.env
 few:((backTo cpos (starEach [e] X.env)).all (fun x=>!x.1)&&(backToKw cpos (keywordEach [] X.env)).all (fun x=>x.1.isSome)
   && decide (([e]:List Expr).length+([]:List Keyword).length+(if ([]:List Keyword).isEmpty then 0 else 1) < 30))=true
 line:(apos.endLine==cpos.line)=true
 trees:backTo cpos (starEach [e] X.env)=[(false,eval e X.env)]
structure M2 (X:Cx) (o:Expr) (m:Str) (apos:Pos) (e f:Expr) (cpos:Pos):Prop where
 base:attributeBase o m X.env (eval o X.env)=eval o X.env
 few:((backTo cpos (starEach [e,f] X.env)).all (fun x=>!x.1)&&(backToKw cpos (keywordEach [] X.env)).all (fun x=>x.1.isSome)
   && decide (([e,f]:List Expr).length+([]:List Keyword).length+(if ([]:List Keyword).isEmpty then 0 else 1) < 30))=true
 line:(apos.endLine==cpos.line)=true
 trees:backTo cpos (starEach [e,f] X.env)=[(false,eval e X.env),(false,eval f X.env)]
def IsD (H:Hp) (a:Addr):Prop:=(∃kvs,Rd H a (.dK kvs))∨∃kvs,Rd H a (.dT kvs)
theorem jK {X:Cx}{pins:List (Addr×Obj)}{σ:St}{H:Hp}{s:Shared}{a:Addr}(I:Inv X pins σ H s) (d:IsD H a) :
   s.TypeIs (.ref a) "dict" /\ (∀b,a0Z a = .ref b->∃ob,s.heap.get? b=some ob/\ob.dict=none)/\(a==sysModules)=false:=by
 rcases d with ⟨kvs,e⟩ | ⟨kvs,e⟩
 · obtain⟨_,hd,vs,_,dd⟩:=MH I.hok e
   refine⟨dd.typeIs,fun b q=>?_,hd⟩
   cases q
   obtain⟨ob,_,_,h1,h2,_⟩:=dd
   exact⟨ob,h1,h2.2.1⟩
 · obtain⟨_,hd,xs,_,dd⟩:=U5 I.hok e
   refine⟨dd.typeIs,fun b q=>?_,hd⟩
   cases q
   obtain⟨ob,_,_,h1,h2,_⟩:=dd
   exact⟨ob,h1,h2.2.1⟩
section
variable {X:Cx}{pins:List (Addr×Obj)}{σ:St}{H:Hp}{s:Shared}{a:Addr}{y d:V}{u r:Value}{o:Option V}{A:Around}{E:Value->Shared->Prop}
theorem uI {Q:Value->Shared->Prop}(hu:A.units+1 < cLine) (I:Inv X pins σ H s) (g:XS H a y o) (ry:RelV y u) (rd:RelV d r) (h:∀w' s',Inv X pins σ H s'->RelV (o.getD d) w'->Q w' s') :
   wpAny (model X.prog X.w) A (call (.builtin "dict.get") [.ref a,u,r]) Q E s:=by
 rcases g with ⟨kvs,k,e,ey,l⟩ | ⟨kvs,k,b,e,ey,eb,l⟩
 · subst ey
   obtain⟨z,hd,vs,rel,dd⟩:=MH I.hok e
   refine call_meetsIn b1K dd.typeIs c2X (PySem.F.args_dict_get_3 _ _ _) (meets_dict_get_default (AM X.prog X.w) a (L1 ry) hd r) ⟨_,dd.mapOf,h _ _ (I.tok _) ?_⟩
   rw[l]
   exact(rel.val k).getD rd
 · subst ey
   cases (show u=a0Z b from ry)
   obtain⟨z,hd,xs,rel,dd⟩:=U5 I.hok e
   refine call_meetsIn b1K dd.typeIs c2X (PySem.F.args_dict_get_3 _ _ _) (meetsH_dict_get_default (tupleKind (AM X.prog X.w)) a b hd r) ⟨tupleKind_room_in1 hu,k,xs,QF I.hok eb,dd,h _ _ (I.tok _) ?_⟩
   rw[l]
   exact(rel.val k).getD rd
end
def jL (td ty tx:TE):TE:=fun σ H Q=>td σ H fun x H1=>∃a,x = .ref a/\IsD H1 a/\ty σ H1 fun y H2=>tx σ H2 fun z H3=>∃o,XS H3 a y o/\Q (o.getD z) H3
def jM (td ty:TE):TE:=fun σ H Q=>td σ H fun x H1=>∃a,x = .ref a/\IsD H1 a/\ty σ H1 fun y H2=>∃kvs k v,H2 a=some (.dK kvs)/\y=kV k/\FP kvs k=some v/\Q v (upd H2 a (.dK (MF kvs k)))
section
variable {X:Cx}{o e f:Expr}{apos cpos:Pos}{td ty tx:TE}
theorem jN (hu:X.A.units+1 < cLine) (ho:PE X o td) (he:PE X e ty) (hf:PE X f tx) (m:M2 X o "get" apos e f cpos):PE X (.Call (.Attribute o "get" apos) [e,f] [] cpos) (jL td ty tx):=by
 intro pins s σ H Q I h
 refine wpAny_Call_method m.base m.few m.line c0V b1K PySem.F.type_dict_get (thn (ho pins s σ H _ I h) fun u s1 ⟨x,H1,I1,rx,a,ex,d,q1⟩=>?_)
 subst ex
 obtain rfl:u=a0Z a:=rx
 obtain⟨t1,t2,_⟩:=jK I1 d
 refine⟨t1,t2,?_⟩
 rw[m.trees]
 refine b1X rfl (b3Z (xP (thn (he pins s1 σ H1 _ I1 q1) fun iv s2 ⟨y,H2,I2,ry,q2⟩=>
   xP (thn (hf pins s2 σ H2 _ I2 q2) fun fv s3 ⟨z,H3,I3,rz,ov,g,q3⟩=>c1X ?_))))
 exact uI hu I3 g ry rz fun w' s4 I4 rw'=>⟨_,H3,I4,rw',q3⟩
theorem jO (ho:PE X o td) (he:PE X e ty) (m:M1 X o "pop" apos e cpos):PE X (.Call (.Attribute o "pop" apos) [e] [] cpos) (jM td ty):=by
 intro pins s σ H Q I h
 refine wpAny_Call_method m.base m.few m.line c0V PySem.F.slot_dict_pop PySem.F.type_dict_pop (thn (ho pins s σ H _ I h) fun u s1 ⟨x,H1,I1,rx,a,ex,d,q1⟩=>?_)
 subst ex
 obtain rfl:u=a0Z a:=rx
 obtain⟨t1,t2,_⟩:=jK I1 d
 refine⟨t1,t2,?_⟩
 rw[m.trees]
 refine b1X rfl (b3Z (xP (thn (he pins s1 σ H1 _ I1 q1) fun iv s2 ⟨y,H2,I2,ry,kvs,k,v,ea,ey,l,q2⟩=>c1X ?_)))
 subst ey
 exact zK I2 ea ry l (.inl rfl) fun w' s3 I3 rw'=>⟨v,_,I3,rw',q2⟩
end
end L2
namespace Att
open PySem PySem.W PySem.Calls PyProof.Rows
theorem PD {P:Params}{h:Heap}:∀(ns:List Int) (vs:List Value),WellAll P h vs (ns.map WData.int)->IntsAre vs ns:=by
 intro ns
 induction ns with
 | nil=>
   intro vs w
   rw[a7W] at w
   cases w
   exact .nil
 | cons n ns ih=>
   intro vs w
   rw[zI] at w
   cases w with
   | cons a b=>
     cases a
     exact .cons _ _ (ih _ b)
theorem script_of {l:OpenLaw}{n:Nat}(hn:l.most=some n) {P:Params}{h:Heap}{args:List WData}{vals:List Value}
   (hpre:l.row.toRowW.claim.pre args=true) (hwl:WellAll P h vals args) :
   ∃a vs ns,vals=[a0Z a]/\args=[WData.list (ns.map WData.int)]/\h.get? a=some { cls:=.type "list", data:=.seq vs.toArray }/\IntsAre vs ns/\ns.length<=n:=by
 have hsh:WShape.hasAll [] args [.list .int]=true:=(pre_splitW hpre).1
 have hc:l.pre.holds [] { args:=args }=true:=(pre_splitW hpre).2
 obtain⟨d,r,rfl,h1,h2⟩:=hasAllW_cons hsh
 obtain rfl:=hasAllW_nil h2
 obtain⟨xs,rfl,h3⟩:=hasW_list h1
 obtain⟨ns,rfl⟩:=items_int h3
 have hlen:ns.length<=n:=by
   unfold OpenLaw.pre at hc
   have h4:(WTm.not (.lt (.lit (.int (n:Int))) (.len (.arg 0)))).holds [] { args:=[.list (ns.map .int)] }=true:=by
     have h4:=(holds_andW hc).1
     rw[hn] at h4
     exact h4
   have h5:=condW_of h4 (w_not (w_lt w_lit (w_len_list (w_arg rfl))))
   rw[zX] at h5
   refine a7X fun q=>?_
   have q':(n:Int) < ((ns.length:Nat):Int):=by omega
   first
     | (rw[decide_eq_true q'] at h5;exact absurd h5 (by decide))
     | (simp at h5;omega)
 cases hwl with
 | cons w1 w2=>
   cases w2
   cases w1 with
   | list ho hall=>exact⟨_,_,ns,rfl,rfl,ho,PD ns _ hall,hlen⟩
theorem post_true (l:OpenLaw) (args:List WData):l.row.toRowW.claim.post args (.bool true) args=true:=
 postW_of (r:=l.row.toRowW) (X:=(true==true))
   (show WShape.has [] (.bool true) .bool=true by first | rfl | decide | simp[WShape.has,WShape.arms,WShape.armsAll])
   (show(WTm.eq .res (.lit (.bool true))).value [] { args:=args,res:=some (.bool true),after:=args }=some (.bool (true==true)) from w_eq_bool (w_res rfl) w_lit) rfl
end Att
namespace L2
open PySem PySem.Spec PyProof.Rows
theorem U6:∀{vs:List Value}{ns:List Int},IntsAre vs ns->Vals (ns.map V.int) vs
 | _,_,.nil=>.nil
 | _,_,.cons n t h=>.cons ⟨t,rfl⟩ (U6 h)
def uJ (H:Hp):Prop:=∀b,H b=none∨∃o xs,H b=some (.frz o (.lst xs))
theorem jP {P:Program}{w:World}{K:Frg}{mg mb:Str->Option Value}{CX:CXT}{k:Nat}{fa a:Addr}{fd:FuncData}{x:Str}{sp:Sp}{s₁:Shared}{vs:List Value}{ns:List Int}
   (KX:K.In s₁.heap) (hns:s₁.heap.Ns mainGlobals mg) (hb:s₁.heap.Ns builtinsNs mb) (hbb:∀x:Str,x ≠ "__name__" -> mb x=bootBuiltins x) (hlim:s₁.heap.NoLimit) (hg:s₁.gens=#[])
   (ha:s₁.heap.get? a=some { cls:=.type "list", data:=.seq vs.toArray }) (hi:IntsAre vs ns) (hl:ns.length<=sizeLine) (hr:Room k callerA)
   (F:∀base:Heap,K.In base->base.Ns mainGlobals mg->FnOk P w K mg base CX k fa fd [x] sp) (hbind:∀(s:Shared) (u:Value),BindsTo s fd ⟨[u],[]⟩ [(x,u)])
   (hsp:∀H:Hp,uJ H->SqL K H a (ns.map V.int)->sp [.ref a] H (fun v _=>v = .bl true) fun _ _ _=>False)
   (hCX:∀H e s',CX [] H s₁ (fun _ _ _=>False) e s'->False) :
   codeAny (model P w) callerA (.call (.ref fa) ⟨[.ref a],[]⟩) (fun r s'=>r = .ok (.ret (.bool true))/\OldK s₁.heap s'.heap/\s'.os=s₁.os/\AllBare s'.gens) s₁:=by
 have rv:=U6 hi
 have lenV:=hi.length
 have core:∀H:Hp,uJ H->SqL K H a (ns.map V.int)->HOk P w H s₁.heap->(∀b,H b≠none->b=a)->(H a≠none->K.lookup a=none) ->
     codeAny (model P w) callerA (.call (.ref fa) ⟨[.ref a],[]⟩) (fun r s'=>r = .ok (.ret (.bool true))/\OldK s₁.heap s'.heap/\s'.os=s₁.os/\AllBare s'.gens) s₁:=by
   intro H hO hS hok hA hK
   have base_of:∀{b:Addr}{o:Obj},s₁.heap.get? b=some o->H b=none->(VA s₁.heap H).get? b=some o:=fun e n=>iY e n
   have noA:∀{b:Addr}{o:Obj}{es:Array DictEntry}{ep:Nat},s₁.heap.get? b=some o->o.data = .dict es ep->H b=none:=fun {b o es ep} e d=>by
     cases q:H b with
     | none=>rfl
     | some u=>
       have e':b=a:=hA b (by rw[q];simp)
       subst e'
       rw[ha] at e;cases e
       have d':Data.seq vs.toArray _=Data.dict es ep:=d
       cases d'
   have nsK:∀{b:Addr}{m:Str->Option Value},s₁.heap.Ns b m->(VA s₁.heap H).Ns b m:=fun {b m} ⟨o,es,ep,e,d,r⟩=>⟨o,es,ep,base_of e (noA e d),d,r⟩
   have hKb:K.In (VA s₁.heap H):=fun b o e=>base_of (KX b o e) (by
     cases q:H b with
     | none=>rfl
     | some u=>
       have e':b=a:=hA b (by rw[q];simp)
       subst e'
       rw[hK (by rw[q];simp)] at e;cases e)
   have hM:Mod K mg (VA s₁.heap H):=⟨hKb,nsK hns,⟨mb,nsK hb,hbb⟩,let ⟨mc,h1,h2⟩:=hlim;⟨mc,nsK h1,h2⟩⟩
   have e0:Env0 P w K mg (VA s₁.heap H) callerA [] s₁ H:=⟨rfl,hM,fun b o e=>nT e,b5X (fW _ _),trivial,fun b hb=>absurd (show b∈([]:List Addr) from hb) (by simp),hok,.of_eq hg⟩
   refine codeAny_mono ((F _ hKb (nsK hns)).run callerA [] s₁ H ⟨[.ref a],[]⟩ [.ref a] [.ref a] _ _ hr e0 (hbind s₁ (.ref a)) (.cons rfl .nil) (hsp H hO hS)) fun r s' h=>?_
   cases r with
   | error e=>exact(hCX H e s' h).elim
   | ok fl=>
     cases fl with
     | next=>exact b4W h
     | brk=>exact b4W h
     | cont=>exact b4W h
     | ret u=>
       obtain⟨v,H',os,bare,un,hok',r',q⟩:=h
       have q':v = .bl true:=q
       subst q'
       obtain rfl:u=Value.bool true:=r'
       refine⟨rfl,OldK.of_keep fun b o e=>?_,os,bare⟩
       cases q:H b with
       | none=>exact un.keep b o e q (by intro z;exact absurd (show b∈([]:List Addr) from z) (by simp)) (by simp)
       | some u=>
         rcases hO b with z | ⟨ob,xs,z⟩
         · rw[q] at z;cases z
         · have z2:=un.frzs b ob _ z
           obtain⟨e1,_⟩:=hok b _ z
           obtain⟨e2,_⟩:=hok' b _ z2
           rw[e] at e1;cases e1
           exact e2
 cases hk:K.lookup a with
 | some o=>
   have e:=KX a o hk
   rw[ha] at e
   cases e
   refine core (fun _=>none) (fun _=>.inl rfl) (.inr ⟨_,vs.toArray,_,hk,rfl,rfl,rfl,by rw[zJ,lenV];exact hl,by simpa using rv⟩) (fun b u z=>by have z':(none:Option HO)=some u:=z;cases z') (fun b z=>absurd rfl z) fun z=>absurd rfl z
 | none=>
   refine core (fun b=>if b=a then some (.frz { cls:=.type "list", data:=.seq vs.toArray } (.lst (ns.map V.int))) else none) (fun b=>?_) (.inl (.inr ⟨{ cls:=.type "list", data:=.seq vs.toArray },if_pos rfl⟩)) (fun b u z=>?_) (fun b z=>?_) fun _=>hk
   · by_cases hb:b=a
     · exact .inr ⟨_,_,if_pos hb⟩
     · exact .inl (if_neg hb)
   · by_cases hb:b=a
     · have z':=(if_pos hb).symm.trans z
       cases z'
       subst hb
       exact⟨ha,by rw[zX];exact hl,vs,_,rv,ha⟩
     · have z':=(if_neg hb).symm.trans z
       cases z'
   · by_cases hb:b=a
     · exact hb
     · exact absurd (if_neg hb) z
def F5 (s:Stmt):Arguments:=match s with
 | .FunctionDef _ a _ _ _ _ _ _ _ _=>a
 | _=>{ posonlyargs:=[],args:=[],vararg:=none,kwonlyargs:=[],kw_defaults:=[],kwarg:=none,defaults:=[] }
def D4 (s:Stmt):List Stmt:=match s with
 | .FunctionDef _ _ b _ _ _ _ _ _ _=>b
 | _=>[]
def AA (s:Stmt):Scope:=match s with
 | .FunctionDef _ _ _ _ _ _ sc _ _ _=>sc
 | _=>{ kind:=.function,names:=[],isGenerator:=false,isCoroutine:=false }
abbrev CX0:CXT:=fun _ _ _ _ _ _=>False
abbrev E0:XK:=fun _ _ _=>False
theorem A0A {X:Cx}:aK CX0 X E0:=fun _ _ _ _ _ _ _ h=>h.elim
structure Fun (K:Frg) (x qual:Str) (st:Stmt) (f:Addr) (fd:FuncData):Prop where
 ex:∃(oc:Value) (od:Option Addr) (kV doc pm:Value) (an:Option Addr) (cdv ct:Value) (osl:Array (Option Value)),
   fd=a9K x qual (F5 st) (D4 st) (AA st) .none kV doc pm an cdv ct/\K.lookup f=some ⟨oc,od,.func fd,osl⟩/\b9Q K cdv qual=true
 kp:b3X K (.ref f)=true
section
variable {P:Program}{w:World}{K:Frg}{mg:Str->Option Value}{base:Heap}
theorem Fun.ok {x qual:Str}{st:Stmt}{f:Addr}{fd:FuncData}{N ps:List Str}{k:Nat}{sp:Sp}(F:Fun K x qual st f fd) (S:FnScope N ps (AA st)) (len:∀vs H Q E,sp vs H Q E->vs.length=ps.length)
   (hbody:∀(cdv:Value) (A:Around) (outer:List Env) (s:Shared) (H:Hp) (vs:List V) (Q:VK) (E:XK),Room k (A.deeper (envOfC qual (AA st) s.heap.objs.size f cdv))->sp vs H Q E ->
     ∃t,PSs (aL CX0 P w K mg base N qual (AA st) f cdv A outer s H E).nox (D4 st) t/\t { nx:=fun _ H'=>Q .non H',rt:=Q } (IQ N vs) H):FnOk P w K mg base CX0 (k+1) f fd ps sp:=by
 obtain⟨oc,od,kV,doc,pm,an,cdv,ct,osl,rfl,lk,hcd⟩:=F.ex
 refine z7 lk hcd S len fun A outer s H vs Q E hr hsp=>?_
 obtain⟨t,h,q⟩:=hbody cdv A outer s H vs Q E hr hsp
 exact⟨t,h.nox,q⟩
theorem Fun.binds {x qual:Str}{st:Stmt}{f:Addr}{fd:FuncData}{ps:List Str}(F:Fun K x qual st f fd)
   (h:∀(kV doc pm:Value) (an:Option Addr) (cdv ct:Value) (us:List Value),us.length=ps.length->bindArgs (a9K x qual (F5 st) (D4 st) (AA st) .none kV doc pm an cdv ct) ⟨us,[]⟩=pure (ps.zip us)):Binds K fd ps []:=by
 obtain⟨oc,od,kV,doc,pm,an,cdv,ct,osl,rfl,lk,hcd⟩:=F.ex
 exact .all (h kV doc pm an cdv ct)
theorem uK {x qual:Str}{st:Stmt}{f:Addr}{oc:Value}{od an:Option Addr}{osl:Array (Option Value)}{kV doc pm cdv ct:Value}(l:K.lookup f=some ⟨oc,od,.func (a9K x qual (F5 st) (D4 st) (AA st) .none kV doc pm an cdv ct),osl⟩)
   (c:b9Q K cdv qual=true) (k:b3X K (.ref f)=true):Fun K x qual st f (a9K x qual (F5 st) (D4 st) (AA st) .none kV doc pm an cdv ct):=⟨⟨oc,od,kV,doc,pm,an,cdv,ct,osl,rfl,l,c⟩,k⟩
end
section
variable {X:Cx}
theorem pv (i:Nat) {x:Str}{pos:Pos}(hN:X.N[i]?=some x:=by rfl) (hv:Vis X.env.scope x:=by first | exact Or.inl rfl | exact Or.inr (Or.inl rfl) | exact Or.inr (Or.inr rfl)) (hd:(x==("__debug__":Str))=false:=by decide)
   (hcd:(x==("__classdict__":Str))=false:=by decide):PE X (.Name x pos) (nU i):=iZ hN hv hd hcd
end
theorem oJ {A B:Prop}(h:B):if false=true then A else B:=by
 rw[if_neg nft]
 exact h
theorem oK {A B:Prop}(h:A):if true=true then A else B:=by
 rw[if_pos rfl]
 exact h
theorem jQ {c A B:Prop}[Decidable c] (h1:c->A) (h2:¬c->B):if c then A else B:=by
 by_cases h:c
 · rw[if_pos h]
   exact h1 h
 · rw[if_neg h]
   exact h2 h
end L2
namespace L2
open PySem PySem.Spec PyProof.Rows
def NT (cells:List (Str×Addr)):List (Str×NameKind)->List (Str×Addr)->List (Str×Addr)
 | [],cs=>cs
 | (n,k)::r,cs=>NT cells r (if k==.free then (match cells.lookup n with | some c=>(n,c)::cs | none=>cs) else cs)
theorem VI (env:Env):∀(names:List (Str×NameKind)) (cs:List (Str×Addr)),(∀y∈names,y.2 = .free->∃c,env.cells.lookup y.1=some c) ->
   (forIn (m:=Sem) names cs fun x r=>do
     let (name,kind):=x
     if (kind==.free)=true then do let c ← cellOf env name;pure (b4X ((name,c)::r)) else pure (b4X r))=pure (NT env.cells names cs)
 | [],cs,_=>rfl
 | (n,k)::r,cs,h=>by
   have hr:∀y∈r,y.2 = .free->∃c,env.cells.lookup y.1=some c:=fun y hy=>h y (yV _ hy)
   rw[List.forIn_cons]
   by_cases hk:(k==a8J)=true
   · obtain⟨c,hc⟩:=h (n,k) a1J (by simpa using hk)
     have hc':env.cells.lookup n=some c:=hc
     simp only[hk,if_true,cellOf,hc',NT]
     exact VI env r _ hr
   · simp only[hk,if_false,NT]
     exact VI env r _ hr
theorem oM {scope:Scope}{env:Env}(h:∀y∈scope.names,y.2 = .free->∃c,env.cells.lookup y.1=some c):closureFor scope env=pure (NT env.cells scope.names []):=by
 have e:=VI env scope.names [] h
 have e2:closureFor scope env=((forIn (m:=Sem) scope.names ([]:List (Str×Addr)) fun x r=>do
     let (name,kind):=x
     if (kind==.free)=true then do let c ← cellOf env name;pure (b4X ((name,c)::r)) else pure (b4X r)) >>= fun r=>pure r):=rfl
 rw[e2,e]
 rfl
theorem XW {cells:List (Str×Addr)}:∀{names:List (Str×NameKind)}{cs:List (Str×Addr)},(∀p∈cs,cells.lookup p.1=some p.2)->∀p∈NT cells names cs,cells.lookup p.1=some p.2
 | [],_,h=>h
 | (n,k)::r,cs,h=>by
   refine XW (names:=r) ?_
   split
   · cases e:cells.lookup n with
     | none=>exact h
     | some c=>
       intro p hp
       rcases yX.mp hp with rfl | hp
       · exact e
       · exact h p hp
   · exact h
theorem U7 {cells:List (Str×Addr)}:∀{names:List (Str×NameKind)}{cs:List (Str×Addr)}{p:Str×Addr},p∈cs->p∈NT cells names cs
 | [],_,_,h=>h
 | (n,k)::r,cs,p,h=>by
   refine U7 (names:=r) ?_
   split
   · cases e:cells.lookup n with
     | none=>exact h
     | some c=>exact yV _ h
   · exact h
theorem XX {cells:List (Str×Addr)}{x:Str}{c:Addr}(hc:cells.lookup x=some c):∀{names:List (Str×NameKind)}{cs:List (Str×Addr)},(x,a8J)∈names->(x,c)∈NT cells names cs
 | [],_,h=>absurd h (by simp)
 | (n,k)::r,cs,h=>by
   rcases yX.mp h with e | h
   · cases e
     refine U7 (names:=r) ?_
     simp[hc]
   · exact XX hc (names:=r) h
theorem QJ {α:Type}:∀{l:List (Str×α)}{x:Str}{c:α},(x,c)∈l->∃c',l.lookup x=some c'
 | [],_,_,h=>absurd h (by simp)
 | (n,k)::r,x,c,h=>by
   rw[a3X]
   cases e:x==n with
   | true=>exact⟨k,rfl⟩
   | false=>
     rcases yX.mp h with e' | h
     · cases e';simp at e
     · exact QJ h
theorem C9 {cells:List (Str×Addr)}{names:List (Str×NameKind)}{x:Str}{c:Addr}(h:(NT cells names []).lookup x=some c):cells.lookup x=some c:=
 XW (names:=names) (cs:=[]) (by simp) (x,c) (a5W h)
structure CSc (X:Cx) (scope:Scope) (NC:List Str) (fr:List (Option Nat)):Prop where
 kind:scope.kind = .function
 nocell:∀y∈scope.names,y.2≠.cell
 names:∀y∈scope.names,y.2 = .local->scope.names.lookup y.1=some .local
 free:∀y∈scope.names,y.2 = .free->X.env.kindOf y.1=some .cell∨X.env.kindOf y.1=some .free
 len:fr.length=NC.length
 slot:∀(i j:Nat) (x:Str),NC[i]?=some x->fr[i]?=some (some j)->X.N[j]?=some x/\scope.names.lookup x=some .free/\Vis X.env.scope x/\X.env.kindOf x≠some .local
def capt (fr:List (Option Nat)) (σ:St):St:=fr.map fun o=>o.bind fun j=>(σ[j]?).join
def B4 (X:Cx) (scope:Scope) (NC:List Str) (C:Addr) (s:Shared) (H:Hp) (ex:List Addr) (pn:List (Addr×Obj)):Cx where
 prog:=X.prog
 w:=X.w
 K:=X.K
 mg:=X.mg
 base:=X.base
 A:=X.A
 N:=NC
 s₀:=s
 H₀:=H
 env:=compEnvC scope (NT X.env.cells scope.names []) C X.env
 outer:=X.stack
 stack:=X.stack
 ex:=ex
 fn:=fun _=>false
 calm:=X.calm
 pn:=pn
 xe:=fun _ _=>False
theorem L4 {scope:Scope}{env:Env}{x:Str}:∀{names:List (Str×NameKind)},
   ((names.map fun(n,k)=>if (k==a8J&&env.scope.kind==.function&&env.kindOf n==some .cell) then (n,NameKind.cell) else (n,k)).lookup x=some .cell ∨
    (names.map fun(n,k)=>if (k==a8J&&env.scope.kind==.function&&env.kindOf n==some .cell) then (n,NameKind.cell) else (n,k)).lookup x=some .free) ->
   (∀y∈names,y.2≠.cell)->(x,a8J)∈names
 | [],h,_=>by simp at h
 | (n,k)::r,h,hn=>by
   have ih:=@L4 scope env x r
   have hn':∀y∈r,y.2≠.cell:=fun y hy=>hn y (yV _ hy)
   have hk:=hn (n,k) a1J
   simp only[zI] at h
   by_cases hc:(k==a8J&&env.scope.kind==.function&&env.kindOf n==some .cell)=true
   · simp only[hc,if_true,a3X] at h
     cases hx:x==n with
     | true=>
       have e:x=n:=by simpa using hx
       have e2:k = .free:=by simp at hc;exact hc.1.1
       subst e e2
       exact a1J
     | false=>
       simp only[hx] at h
       exact yV _ (ih h hn')
   · simp only[hc,a3X] at h
     cases hx:x==n with
     | true=>
       have e:x=n:=by simpa using hx
       subst e
       simp[a3X] at h
       rcases h with h | h
       · exact absurd h hk
       · subst h;exact a1J
     | false=>
       simp[a3X,hx] at h
       exact yV _ (ih (by simpa using h) hn')
section
variable {X:Cx}{scope:Scope}{NC:List Str}{fr:List (Option Nat)}{pins:List (Addr×Obj)}{σ:St}{H:Hp}{s:Shared}
theorem CSc.has (S:CSc X scope NC fr) (ok:X.Ok):∀y∈scope.names,y.2 = .free->∃c,X.env.cells.lookup y.1=some c:=fun y hy hf=>ok.has y.1 (S.free y hy hf)
theorem CSc.cells (S:CSc X scope NC fr) (ok:X.Ok) {x:Str}(h:(x,a8J)∈scope.names):∃c,(NT X.env.cells scope.names []).lookup x=some c/\X.env.cells.lookup x=some c:=by
 obtain⟨c,hc⟩:=S.has ok _ h rfl
 have hc':X.env.cells.lookup x=some c:=hc
 obtain⟨c',h'⟩:=QJ (XX hc' h (cs:=[]))
 have:=C9 h'
 rw[hc'] at this;cases this
 exact⟨_,h',hc'⟩
theorem VJ {env:Env}{x:Str}{scope:Scope}(hn:∀y∈scope.names,y.2 = .local->scope.names.lookup y.1=some .local) (h:(x,a8J)∈scope.names) (hl:scope.names.lookup x≠some .free->False):(relabel scope env).names.lookup x=some .cell∨(relabel scope env).names.lookup x=some .free:=by
 have hf:scope.names.lookup x=some .free:=by
   cases e:scope.names.lookup x with
   | none=>exact(hl (by rw[e];intro z;cases z)).elim
   | some k=>
     cases k <;> first
       | rfl
       | exact(hl (by rw[e];intro z;cases z)).elim
 have go:∀(names:List (Str×NameKind)),names.lookup x=some .free ->
   ((names.map fun(n,k)=>if (k==a8J&&env.scope.kind==.function&&env.kindOf n==some .cell) then (n,NameKind.cell) else (n,k)).lookup x=some .cell ∨
    (names.map fun(n,k)=>if (k==a8J&&env.scope.kind==.function&&env.kindOf n==some .cell) then (n,NameKind.cell) else (n,k)).lookup x=some .free):=by
   intro names
   induction names with
   | nil=>intro h;simp at h
   | cons y r ih=>
     obtain⟨n,k⟩:=y
     intro h
     rw[a3X] at h
     simp only[zI]
     cases hx:x==n with
     | true=>
       simp only[hx] at h
       cases h
       split
       · left;simp[a3X,hx]
       · right;simp[a3X,hx]
     | false=>
       simp only[hx] at h
       have:=ih h
       split
       · simpa [a3X,hx] using this
       · simpa [a3X,hx] using this
 exact go scope.names hf
end
end L2
namespace L2
open PySem PySem.Spec PyProof.Rows
theorem B0 {α:Type}{t:Sem α}{Q:α->Shared->Prop}{M:Model}{A:Around}{E:Value->Shared->Prop}{s:Shared}(h:wpAny M A t Q (fun _ _=>False) s):wpAny M A t Q E s:=
 wpAny_mono h (fun _ _ q=>q) fun _ _ f=>f.elim
def QK (ifs:List Expr) (env:Env):Sem Bool:=forIn ifs true fun c r=>if r=true then do let ok ← isTrue c env (eval c env);pure (b4X ok) else pure (b4X r)
def aP (prog:Program) (w:World) (A:Around) (cE target:Expr) (ifs:List Expr) (tl:Env->Addr->(Shared->Prop)->Shared->Prop):Prop:=
 ∀(it D:Addr) (env:Env) (R:Result->Shared->Prop) (I:Nat->Shared->Prop),(∀n s,I n s->wpAny (model prog w) A (pyNext (.ref it)) (fun r s₁=>match r with
     | none=>R (.ok .next) s₁
     | some v=>wpAny (model prog w) A (letOwnedTupleGo target (.ref it) v) (fun _ s₀=>wpAny (model prog w) A (assign target env v) (fun _ s₂=>
         wpAny (model prog w) A (QK ifs env) (fun ok s₃=>if ok=true then tl env D (fun s'=>∃m,m < n/\I m s') s₃ else ∃m,m < n/\I m s₃) (fun _ _=>False) s₂) (fun _ _=>False) s₀) (fun _ _=>False) s₁) (fun _ _=>False) s) ->
   ∀n s,I n s->codeAny (model prog w) A (.compLoop cE 0 (.ref it) (.ref D) env) R s
def tlL (prog:Program) (w:World) (A:Around) (elt:Expr):Env->Addr->(Shared->Prop)->Shared->Prop:=fun env D P s=>wpAny (model prog w) A (eval elt env) (fun x s₄=>wpAny (model prog w) A (call (.builtin "list.append") [.ref D,x]) (fun _ s₅=>P s₅) (fun _ _=>False) s₄) (fun _ _=>False) s
theorem oN {prog:Program}{w:World}{A:Around}{elt target iter:Expr}{ifs:List Expr}{scope:Scope}{pos:Pos}:aP prog w A (.ListComp elt [⟨target,iter,ifs,0⟩] scope pos) target ifs (tlL prog w A elt):=by
 intro it D env R I turn n s h
 refine codeAny_loop rfl I (fun n s hI=>?_) n h
 show wpAny _ A ((compTurn (.ListComp elt [⟨target,iter,ifs,0⟩] scope pos) 0 (.ref it) (.ref D) env).onRaise (fun x=>do noteFrame x env;theTreesLotGoes x)) _ _ s
 refine wpAny_noted ?_
 rw[compTurn_list]
 refine zZ (wpAny_standAt (zZ (wpAny_mono (B0 (turn n s hI)) (fun r s₁ h₁=>?_) fun _ _ h'=>h')))
 cases r with
 | none=>exact zY h₁
 | some v=>
   refine zZ (wpAny_mono (B0 h₁) (fun _ s₀ h₀=>?_) fun _ _ h'=>h')
   refine zZ (wpAny_mono (B0 h₀) (fun _ s₂ h₂=>zZ (wpAny_mono (B0 h₂) (fun ok s₃ h₃=>?_) fun _ _ h'=>h')) fun _ _ h'=>h')
   cases ok with
   | false=>exact zY ⟨rfl,h₃⟩
   | true=>
     exact zZ (zZ (wpAny_mono (B0 h₃) (fun x s₄ h₄=>zZ (wpAny_mono (B0 h₄) (fun _ s₅ h₅=>zY (zY ⟨rfl,h₅⟩)) fun _ _ h'=>h')) fun _ _ h'=>h'))
def PTs (X:Cx) (ifs:List Expr) (t:TT):Prop:=
 ∀(pins:List (Addr×Obj)) (s:Shared) (σ:St) (H:Hp) (Q:Bool->Hp->Prop),Inv X pins σ H s->t σ H Q->wpAny (model X.prog X.w) X.A (QK ifs X.env) (TP X pins σ Q) X.xe s
def A0B:TT:=fun _ H Q=>Q true H
theorem dF {X:Cx}:PTs X [] A0B:=fun _ _ _ H _ I h=>wpAny_tests_nil ⟨H,I,h⟩
theorem oO {X:Cx}{c:Expr}{t:TT}(h:PT X c t):PTs X [c] t:=fun pins s σ H Q I q=>wpAny_tests_one (h pins s σ H Q I q)
def U8 (fr:List (Option Nat)) (wi:TI) (g:TG) (tt:TT) (te:TE):TE:=fun σ H Q=>wi σ H fun J H1=>∀D,H1 D=none->∃W:Nat->Nat->List V->Hp->Prop,(∃m,W 0 m [] (upd H1 D (.lst []))) /\
 ∀i m ys H2,W i m ys H2->H2 D=some (.lst ys)/\((J.stop i H2/\Q (.ref D) H2)∨(J.go i H2/\∀x H3,J.yld i H2 x H3->g x (capt fr σ) H3 fun σ2 H4=>
   (∀(i:Nat) v,(capt fr σ)[i]?=some (some v)->σ2[i]?=some (some v))/\tt σ2 H4 fun c H5=>if c=true then te σ2 H5 fun y H6=>∃ys',H6 D=some (.lst ys')/\ys'.length < sizeLine/\∃m',m' < m/\W (i+1) m' (ys'++[y]) (upd H6 D (.lst (ys'++[y])))
     else ∃ys' m',m' < m/\W (i+1) m' ys' H5))
section
variable {X:Cx}{scope:Scope}{NC:List Str}{fr:List (Option Nat)}{pins:List (Addr×Obj)}{σ:St}{H:Hp}{s:Shared}
theorem aQ {fp:List Addr}{h1:Heap}{m:Str->Option Value}{tk:Nat}(S:CSc X scope NC fr) (I:Inv X pins σ H s) (hfp:∀b∈fp,LN X pins H b) (hlt:∀b∈fp,b < s.heap.objs.size)
   (hns:h1.Ns s.heap.objs.size m) (hk:∀b o,s.heap.get? b=some o->h1.get? b=some o) :
   Inv (B4 X scope NC s.heap.objs.size s H fp (X.pn++pins)) [] (capt fr σ) H { s with heap:=h1,toks:=tk }:=by
 have I4:Inv X pins σ H { s with heap:=h1,toks:=tk }:=I.kept hk
 have nstk:∀b,b≠X.env.locals->b∉X.fs->b∉frs X.stack:=fun b h1 h2 z=>(yX.mp (I.stkSub b z)).elim h1 h2
 refine⟨⟨I.ok.mod,S.kind,I.ok.glob,I.ok.blt,zR _,fun x y c h1 h2=>I.ok.inj x y c (C9 h1) (C9 h2),fun x hx=>?_,fun x c h=>absurd h (by intro z;cases z),I.ok.hd,I.ok.frames,.inl rfl,fun b hb=>?_,I.bs,zN I.ok.bsz I.sz,fun b o e hb=>?_,fun b hb=>?_,I.stack,I.stkFree⟩,
   rfl,I.bare,Un.kept hk,⟨m,hns,fun i x v e1 e2 e3=>?_⟩,fun x c e=>I4.cell x c (C9 e),I.hok.fresh (zR _),fun x c e=>I4.freeC x c (C9 e),fun p hp=>?_,I4.hok,?_⟩
 · have hx':=L4 (scope:=scope) (env:=X.env) (x:=x) (names:=scope.names) hx S.nocell
   obtain⟨c,h,_⟩:=S.cells I.ok hx'
   exact⟨c,h⟩
 · exact⟨zC (hlt b hb),fun x c e=>(hfp b hb).2.2.2.2.1 x c (C9 e)⟩
 · rcases (hfp b hb).2.2.2.1 with z | z
   · exact I.ok.noex b o e z
   · exact absurd (zP (zM e) (zN I.ok.bsz z)) (yF _)
 · exact nstk b (hfp b hb).2.1 (hfp b hb).2.2.1
 · have e2':∃j,fr[i]?=some (some j)/\σ[j]?=some (some v):=by
     unfold capt at e2
     rw[zF] at e2
     cases hf:fr[i]? with
     | none=>rw[hf] at e2;cases e2
     | some o=>
       rw[hf] at e2
       cases o with
       | none=>cases e2
       | some j=>
         refine⟨j,rfl,?_⟩
         have e2:((σ[j]?).join)=some v:=Option.some.inj e2
         cases hs:σ[j]? with
         | none=>rw[hs] at e2;cases e2
         | some q=>rw[hs] at e2;cases q with
           | none=>cases e2
           | some v'=>cases e2;rfl
   obtain⟨j,f1,f2⟩:=e2'
   obtain⟨g1,g2,g3,g4⟩:=S.slot i j x e1 f1
   obtain⟨m',hn',hl'⟩:=I4.loc
   obtain⟨u,r,l⟩:=hl' j x v g1 f2 g3
   rcases l with ⟨k,_⟩ | ⟨k,c,hc,hcell⟩
   · exact absurd k g4
   · obtain⟨c',q1,q2⟩:=S.cells I.ok (a5W g2)
     rw[hc] at q2;cases q2
     exact⟨u,r,.inr ⟨VJ S.names (a5W g2) (fun z=>z g2),c,q1,hcell⟩⟩
 · have hp':p∈X.pn++pins:=by rw[a9V] at hp;exact hp
   obtain⟨p1,p2,p3,p4,p5⟩:=I4.pin p hp'
   exact⟨p1,p2,zC (zM (I.pin p hp').1),nstk _ p3 p4,p5⟩
 · unfold capt
   rw[zX]
   exact S.len
def A0C (fr:List (Option Nat)) (wi:TI) (g:TG) (tt:TT) {Y:Type}(y0:Y) (at_:Y->HO) (el:Addr->Nat->(Nat->Y->Hp->Prop)->St->Hp->Prop):TE:=fun σ H Q=>wi σ H fun J H1=>∀D,H1 D=none->∃W:Nat->Nat->Y->Hp->Prop,(∃m,W 0 m y0 (upd H1 D (at_ y0))) /\
 ∀i m ys H2,W i m ys H2->H2 D=some (at_ ys)/\((J.stop i H2/\Q (.ref D) H2)∨(J.go i H2/\∀x H3,J.yld i H2 x H3->g x (capt fr σ) H3 fun σ2 H4=>
   (∀(i:Nat) v,(capt fr σ)[i]?=some (some v)->σ2[i]?=some (some v))/\tt σ2 H4 fun c H5=>if c=true then el D m (W (i+1)) σ2 H5 else ∃ys' m',m' < m/\W (i+1) m' ys' H5))
def uL (X:Cx) (pins:List (Addr×Obj)) (σ:St) (use:Option (Value->Sem Unit)) (Q:VK) (QQ:Value->Shared->Prop):Prop:=
 ∀(D C:Addr) (H':Hp) (s':Shared) (m:Str->Option Value) (oC:Obj),Inv X (pins++[(C,oC)]) σ H' s'->s'.heap.Ns C m->Q (.ref D) H' ->
     (∀(pins':List (Addr×Obj)) (σ2:St) (H2:Hp) (s2:Shared) (h2:Heap),Inv X (pins++[(C,oC)]) σ2 H2 s2->Heap.SameBut C s2.heap h2->Inv X pins σ2 H2 { s2 with heap:=h2 }) ->
     s'.heap.get? C=some oC ->
     match use with
     | none=>∀h',Heap.SameBut C s'.heap h'->QQ (.ref D) { s' with heap:=h' }
     | some u=>wpAny (model X.prog X.w) X.A (u (.ref D)) (fun _ s''=>∃m,s''.heap.Ns C m/\∀h',Heap.SameBut C s''.heap h'->QQ .none { s'' with heap:=h' }) X.xe s'
theorem U9 {cE iter tg:Expr}{ifs:List Expr}{cpos:Pos}{wi:TI}{g:TG}{tt:TT}{Y:Type}{y0:Y}{at_:Y->HO}{Ty:String}{dt:Data}{mk:Sem Value}{tl:Env->Addr->(Shared->Prop)->Shared->Prop}{el:Addr->Nat->(Nat->Y->Hp->Prop)->St->Hp->Prop}{use:Option (Value->Sem Unit)}{Q:VK}{QQ:Value->Shared->Prop}
   {gs:List Comprehension}(hcl:clausesOf cE=⟨tg,iter,ifs,0⟩::gs) (hmk:mk=newObj (.type Ty) dt none) (hsz:sizeOk dt)
   (hob:∀(H:Hp) (h:Heap),sysModules < h.objs.size->ObjOk X.prog X.w H (h.push { cls:=.type Ty,dict:=none,data:=dt }) h.objs.size (at_ y0)) (hgo:aP X.prog X.w X.A cE tg ifs tl)
   (hst:∀{it acc:Value}{env:Env}{R:Result->Shared->Prop}{s:Shared},codeAny (model X.prog X.w) X.A (.compLoop cE 0 it acc env) R s->wpAny (model X.prog X.w) X.A (pyIter it) (fun it' s'=>codeAny (model X.prog X.w) X.A (.compLoop cE 0 it' acc env) R s') (notedBy (model X.prog X.w) X.A env fun x s'=>R (.error x) s') s->codeAny (model X.prog X.w) X.A (.compStart cE 0 it acc env) R s)
   (hc:X.calm=true) (S:CSc X scope NC fr) (hi:PI X tg iter wi)
   (hb:∀(C:Addr) (s:Shared) (H:Hp) (ex:List Addr) (pn:List (Addr×Obj)),PG (B4 X scope NC C s H ex pn) tg g/\PTs (B4 X scope NC C s H ex pn) ifs tt/\∀(pn':List (Addr×Obj)) (s':Shared) (σ:St) (H':Hp) (D:Addr) (n:Nat) (W:Nat->Y->Hp->Prop) (P:Shared->Prop),Inv (B4 X scope NC C s H ex pn) pn' σ H' s'->el D n W σ H'->(∀m y H2 s2,m < n->W m y H2->Inv (B4 X scope NC C s H ex pn) pn' σ H2 s2->P s2)->tl (B4 X scope NC C s H ex pn).env D P s')
   (I:Inv X pins σ H s) (h:A0C fr wi g tt y0 at_ el σ H Q) (fin:uL X pins σ use Q QQ) (hs:∀x,foldedSetIterable iter X.env x=pure x) :
   wpAny (model X.prog X.w) X.A (comprehension cE scope X.env cpos mk false (eval iter X.env) use) QQ X.xe s:=by
 refine wpAny_comprehension_free (use:=use) hcl hs (oM (S.has I.ok)) S.kind S.names (thn (hi pins s σ H _ I h) fun v s1 h1=>thn h1 fun itv s2 h2=>?_)
 obtain⟨it,fp,tn,J,H2,e,I2,T,st2,f2,hq⟩:=h2
 subst e
 have hDn:H2 s2.heap.objs.size=none:=I2.hok.fresh (zR _)
 obtain⟨W,⟨m0,w0⟩,turn⟩:=hq s2.heap.objs.size hDn
 rw[hmk]
 refine xM (hd:=hsz) (wpAny_newFunctionEnv S.nocell (by intro y hy;simp at hy) (fun h₁ hns₁ hsb₁=>?_) S.kind)
 dsimp only at hns₁ hsb₁ ⊢
 generalize hs3:({ s2 with heap:=s2.heap.push { cls:=.type Ty,dict:=none,data:=dt } }:Shared)=s3
 have hh3:s2.heap.push { cls:=.type Ty,dict:=none,data:=dt }=s3.heap:=by rw[← hs3]
 have I3:Inv X pins σ (upd H2 s2.heap.objs.size (at_ y0)) s3:=by
   rw[← hs3]
   refine I2.laid (t':=s2.toks) (fun b u e=>zW _ e) (zR _) ?_
   exact hob _ _ I2.big
 rw[hh3] at hns₁ hsb₁ ⊢
 have sz3:s3.heap.objs.size=s2.heap.objs.size+1:=by rw[← hh3,b1Q]
 have lt2:∀b∈fp,b < s2.heap.objs.size:=fun b hb=>by
   obtain⟨o,e,_⟩:=T.obj _ _ st2 b hb
   exact zM e
 have lt3:∀b∈fp,b < s3.heap.objs.size:=fun b hb=>by rw[sz3];exact c2J (lt2 b hb)
 have f3:∀b∈fp,LN X pins (upd H2 s2.heap.objs.size (at_ y0)) b:=fun b hb=>⟨by rw[AN (zC (lt2 b hb))];exact(f2 b hb).1,(f2 b hb).2⟩
 have keep1:∀b o,s3.heap.get? b=some o->h₁.get? b=some o:=fun b o e=>hsb₁.extBut b o (zC (zM e)) (zW _ e)
 generalize hC:s3.heap.objs.size=C at hns₁ hsb₁ ⊢
 have I0:Inv (B4 X scope NC C s3 (upd H2 s2.heap.objs.size (at_ y0)) fp (X.pn++pins)) [] (capt fr σ) (upd H2 s2.heap.objs.size (at_ y0)) { s2 with heap:=h₁,toks:=s2.toks+([]:List (Str×Value)).length }:=by
   have:=aQ (tk:=s2.toks+([]:List (Str×Value)).length) (h1:=h₁) S I3 f3 lt3 (hC▸hns₁) keep1
   rw[hC] at this
   rw[← hs3] at this
   rw[← hs3]
   exact this
 obtain⟨hbg,hbt,hbl⟩:=hb C s3 (upd H2 s2.heap.objs.size (at_ y0)) fp (X.pn++pins)
 generalize hX':B4 X scope NC C s3 (upd H2 s2.heap.objs.size (at_ y0)) fp (X.pn++pins)=X' at I0 hbg hbt hbl
 have eP:X'.prog=X.prog:=by rw[← hX'];rfl
 have eW:X'.w=X.w:=by rw[← hX'];rfl
 have eK:X'.K=X.K:=by rw[← hX'];rfl
 have eA:X'.A=X.A:=by rw[← hX'];rfl
 have eE:X'.env=compEnvC scope (NT X.env.cells scope.names []) C X.env:=by rw[← hX'];rfl
 have eX:X'.xe=fun _ _=>False:=by rw[← hX'];rfl
 have ec:X'.calm=true:=by rw[← hX'];exact hc
 have stat:∀{H':Hp},(∀b∈fp,H' b=none)->∀b∈fp,LN X' [] H' b:=fun {H'} hn b hb=>by
   obtain⟨q1,q2,q3,q4,q5,q6⟩:=f3 b hb
   rw[← hX']
   exact⟨hn b hb,by show b≠C;rw[← hC];exact zC (lt3 b hb),fun z=>(yX.mp (I3.stkSub b z)).elim q2 q3,.inl hb,fun x c e=>q5 x c (C9 e),fun p hp=>q6 p (by rw[a9V] at hp;exact hp)⟩
 have ends:∀(i m:Nat) (ys:Y) (H':Hp) (s':Shared),Inv X' [] (capt fr σ) H' s'->Q (.ref s2.heap.objs.size) H' ->
     compPost (model X.prog X.w) X.A X.xe use QQ (.ref s2.heap.objs.size) C (.ok .next) s':=by
   intro i m ys H' s' I' q'
   have eC:X'.env.locals=C:=by rw[eE];rfl
   obtain⟨mC,hnC,_⟩:=I'.loc
   rw[eC] at hnC
   have hCn:H' C=none:=by have:=I'.free;rw[eC] at this;exact this
   have un:Un (frs X.stack) fp (upd H2 s2.heap.objs.size (at_ y0)) H' s3.heap s'.heap:=by
     have:=I'.base
     rw[← hX'] at this
     exact this
   have os':s'.os=s3.os:=by have:=I'.os;rw[← hX'] at this;exact this
   have hok':HOk X.prog X.w H' s'.heap:=by have:=I'.hok;rw[eP,eW] at this;exact this
   have Iout:Inv X pins σ H' s':=I3.call' (ch:=fp) os' un hok' I'.bare fun b hb=>⟨(f3 b hb).2.2.2.1,(f3 b hb).2.1,(f3 b hb).2.2.2.2.1,(f3 b hb).2.2.2.2.2⟩
   have C1:C≠X.env.locals:=by rw[← hC];exact a5X I3.lt
   have C2:C∉X.fs:=by rw[← hC];exact I3.nofs (zR _)
   have C3:X.s₀.heap.objs.size<=C:=by rw[← hC];exact I3.sz
   have C4:∀x c,X.env.cells.lookup x=some c->c≠C:=fun x c e z=>by
     obtain⟨v,q⟩:=I3.cell x c e
     rw[z,← hC] at q
     exact absurd q.lt (yF _)
   have C5:∀p∈X.pn++pins,p.1≠C:=fun p hp z=>by
     have:=zM (I3.pin p hp).1
     rw[z,← hC] at this
     exact absurd this (yF _)
   obtain⟨oC,esC,epC,hoC,hdC,hrC⟩:=id hnC
   have Ipin:Inv X (pins++[(C,oC)]) σ H' s':=Iout.pins_of fun p hp=>(yW.mp hp).elim (fun z=>Iout.pin p (zB _ z)) fun z=>by
     have e:p=(C,oC):=by simpa using z
     subst e
     exact⟨hoC,hCn,C1,C2,fun v z=>by rw[hdC] at z;cases z⟩
   have res:=fin s2.heap.objs.size C H' s' mC oC Ipin hnC q' (fun _ σ2 H3 s4 h4 I4 sb=>by
     have J4:Inv X pins σ2 H3 s4:=I4.unpinned
     have hn4:H3 C=none:=(I4.pin (C,oC) (zB _ (zB _ (by simp)))).2.1
     exact J4.turned (t':=s4.toks) (it:=C) (fun b o hb e=>sb.extBut b o hb e) hn4 C1 (.inr C3) C4 C5) hoC
   cases use with
   | none=>exact⟨mC,hnC,res⟩
   | some u=>exact res
 have loop:∀s':Shared,s'={ s2 with heap:=h₁,toks:=s2.toks+([]:List (Str×Value)).length } ->
     codeAny (model X.prog X.w) X.A (.compLoop cE 0 (.ref it) (.ref s2.heap.objs.size) (compEnvC scope (NT X.env.cells scope.names []) C X.env))
       (compPost (model X.prog X.w) X.A X.xe use QQ (.ref s2.heap.objs.size) C) s':=by
   rintro s' rfl
   refine hgo _ _ _ _ (fun n s'=>∃i ys H',Inv X' [] (capt fr σ) H' s'/\tn i s'.heap/\(∀b∈fp,H' b=none)/\W i n ys H') ?_ m0 _
     ⟨0,y0,_,I0,T.keep _ _ _ st2 (fun b hb o e=>keep1 b o (by rw[← hh3];exact zW _ e)),fun b hb=>(f3 b hb).1,w0⟩
   rintro n s5 ⟨i,ys,H5,I5,st5,fr5,w5⟩
   obtain⟨hD5,hturn⟩:=turn i n ys H5 w5
   rcases hturn with ⟨stop,qn⟩ | ⟨go,step⟩
   · have:=T.done X' eP eW eK ec i [] s5 (capt fr σ) H5 (fun _ _=>False) I5 (stat fr5) st5 stop
     rw[eA] at this
     refine thn this fun r s6 ⟨hr,I6⟩=>?_
     subst hr
     exact ends i n ys H5 s6 I6 qn
   · have:=T.item X' eP eW eK ec i [] s5 (capt fr σ) H5 (fun _ _=>False) I5 (stat fr5) st5 go
     rw[eA] at this
     refine thn this fun r s6 ⟨u,hr,h6⟩=>?_
     subst hr
     refine thn h6 fun _ s7 ⟨x,H7,I7,r7,y7,st7,fr7⟩=>?_
     have I7':=I7.pinned (stat fr7) (T.obj _ _ st7)
     have hg1:=hbg _ s7 (capt fr σ) H7 x u _ I7' r7 (step x H7 y7)
     rw[eP,eW,eA,eE,eX] at hg1
     refine thn hg1 fun _ s8 ⟨σ8,H8,I8,ext8,q8⟩=>?_
     have ht1:=hbt _ s8 σ8 H8 _ I8 q8
     rw[eP,eW,eA,eE,eX] at ht1
     refine thn ht1 fun ok s9 ⟨H9,I9,q9⟩=>?_
     have weak:∀{H':Hp}{s':Shared},Inv X' ([]++QA fp s7.heap) σ8 H' s'->Inv X' [] (capt fr σ) H' s'/\tn (i+1) s'.heap/\∀b∈fp,H' b=none:=fun {H' s'} I'=>by
       refine⟨I'.unpinned.weak (by rw[I'.len];rw[I0.len]) ext8,T.keep _ _ _ st7 fun b hb o e=>(I'.pin (b,o) (zB _ (zB _ (HM hb e)))).1,fun b hb=>?_⟩
       obtain⟨o,e,d⟩:=T.obj _ _ st7 b hb
       exact(I'.pin (b,o) (zB _ (zB _ (HM hb e)))).2.1
     cases ok with
     | false=>
       rw[if_neg nft] at q9
       obtain⟨ys',m',hm',w'⟩:=q9
       obtain⟨a1,a2,a3⟩:=weak I9
       exact⟨m',hm',i+1,ys',H9,a1,a2,a3,w'⟩
     | true=>
       rw[if_pos rfl] at q9
       have ht2:=hbl _ s9 σ8 H9 _ n (W (i+1)) (fun s'=>∃m'',m'' < n/\∃i ys H',Inv X' [] (capt fr σ) H' s'/\tn i s'.heap/\(∀b∈fp,H' b=none)/\W i m'' ys H') I9 q9 fun m y H2 s2 hm w' I'=>by
         obtain⟨a1,a2,a3⟩:=weak I'
         exact⟨m,hm,i+1,y,H2,a1,a2,a3,w'⟩
       rw[eE] at ht2
       exact ht2
 refine hst (loop _ rfl) (T.self _ 0 _ _ _ ?_ (loop _ rfl))
 exact T.keep _ _ _ st2 (fun b hb o e=>keep1 b o (by rw[← hh3];exact zW _ e))
theorem XY {elt iter tg:Expr}{ifs:List Expr}{pos cpos:Pos}{wi:TI}{g:TG}{tt:TT}{te:TE}{use:Option (Value->Sem Unit)}{Q:VK}{QQ:Value->Shared->Prop}(hc:X.calm=true) (S:CSc X scope NC fr) (hi:PI X tg iter wi)
   (hb:∀(C:Addr) (s:Shared) (H:Hp) (ex:List Addr) (pn:List (Addr×Obj)),PG (B4 X scope NC C s H ex pn) tg g/\PTs (B4 X scope NC C s H ex pn) ifs tt/\PE (B4 X scope NC C s H ex pn) elt te)
   (I:Inv X pins σ H s) (h:U8 fr wi g tt te σ H Q) (fin:uL X pins σ use Q QQ) (hs:∀x,foldedSetIterable iter X.env x=pure x) :
   wpAny (model X.prog X.w) X.A (comprehension (.ListComp elt [⟨tg,iter,ifs,0⟩] scope pos) scope X.env cpos (newList []) false (eval iter X.env) use) QQ X.xe s:=by
 refine U9 (y0:=[]) (at_:=.lst) (Ty:= "list") (dt:=.seq #[]) (tl:=tlL X.prog X.w X.A elt) (el:=fun D m W σ2 H5=>te σ2 H5 fun y H6=>∃ys',H6 D=some (.lst ys')/\ys'.length < sizeLine/\∃m',m' < m/\W m' (ys'++[y]) (upd H6 D (.lst (ys'++[y])))) rfl rfl (by size_fits) (fun H h _=>⟨xT _,[],0,.nil,yZ _ rfl⟩) oN codeAny_compStart_list hc S hi (fun C s H ex pn=>⟨(hb C s H ex pn).1,(hb C s H ex pn).2.1,fun pn' s' σ H' D n W P I q k=>?_⟩) I h fin hs
 refine thn ((hb C s H ex pn).2.2 _ s' σ H' _ I q) fun y s10 ⟨yv,H10,I10,r10,ys',hD,hsz,m',hm',w'⟩=>?_
 exact thn (U3 _ s10 σ H10 (.ref D) [yv] (.ref D) [y] (fun _ H'=>∃m',m' < n/\W m' (ys'++[yv]) H') I10 rfl (.cons r10 .nil) ⟨_,ys',yv,rfl,rfl,hD,hsz,m',hm',w'⟩) fun _ s11 ⟨_,H11,I11,_,m'',hm'',w''⟩=>k _ _ _ _ hm'' w'' I11
end
end L2
namespace L2
open PySem PySem.Spec PyProof.Rows
section
variable {X:Cx}{scope:Scope}{NC:List Str}{fr:List (Option Nat)}{elt iter tg:Expr}{ifs:List Expr}{pos:Pos}{wi:TI}{g:TG}{tt:TT}{te:TE}
theorem dG (hc:X.calm=true) (S:CSc X scope NC fr) (hi:PI X tg iter wi)
   (hb:∀(C:Addr) (s:Shared) (H:Hp) (ex:List Addr) (pn:List (Addr×Obj)),PG (B4 X scope NC C s H ex pn) tg g/\PTs (B4 X scope NC C s H ex pn) ifs tt/\PE (B4 X scope NC C s H ex pn) elt te)
   (hs:∀x,foldedSetIterable iter X.env x=pure x:=by intro _;rfl):PE X (.ListComp elt [⟨tg,iter,ifs,0⟩] scope pos) (U8 fr wi g tt te):=by
 intro pins s σ H Q I h
 rw[eval_ListComp]
 refine XY (use:=none) (Q:=Q) hc S hi hb I h (fun D C H' s' m oC I' hn q back _ h' sb=>?_) hs
 exact⟨.ref D,H',back pins σ H' s' h' I' sb,rfl,q⟩
theorem oP {i:Nat}{x:Str}{py spos:Pos}(hc:X.calm=true) (hN:X.N.Nodup) (hix:X.N[i]?=some x) (hx:Loc X.env.scope x) (S:CSc X scope NC fr) (hi:PI X tg iter wi)
   (hb:∀(C:Addr) (s:Shared) (H:Hp) (ex:List Addr) (pn:List (Addr×Obj)),PG (B4 X scope NC C s H ex pn) tg g/\PTs (B4 X scope NC C s H ex pn) ifs tt/\PE (B4 X scope NC C s H ex pn) elt te)
   (hsw:swapsWith (.ListComp elt [⟨tg,iter,ifs,0⟩] scope pos) (some (.Name x py)) spos.line X.env=pure true)
   (hf:X.fn x=true∨X.env.scope.names.lookup x=some .local:=by first | exact .inl rfl | exact .inr rfl | assumption)
   (hs:∀x,foldedSetIterable iter X.env x=pure x:=by intro _;rfl) :
   PS X (.Assign [.Name x py] (.ListComp elt [⟨tg,iter,ifs,0⟩] scope pos) spos) (fun D σ H=>U8 fr wi g tt te σ H fun v H'=>D.nx (σ.set i (some v)) H'):=by
 intro pins s σ H D I h
 rw[exec_Assign_Name_used _ _ _ _ hsw]
 refine zZ (wpAny_standAt (zZ ?_))
 show wpAny _ X.A (do let _ ← comprehension (.ListComp elt [⟨tg,iter,ifs,0⟩] scope pos) scope X.env _ (newList []) false (eval iter X.env) (some (assign (.Name x py) X.env))) _ _ s
 refine zZ (thn (XY (use:=some (assign (.Name x py) X.env)) (Q:=fun v H'=>D.nx (σ.set i (some v)) H') (QQ:=fun _ s'=>∃σ' H',Inv X pins σ' H' s'/\D.nx σ' H') hc S hi hb I h (fun A C H' s' m oC I' hn q back hoC=>?_) hs) fun _ s' hq=>zY (zY hq))
 have hst:=CZ (X:=X) (pos:=py) hN hix hx hf (pins++[(C,oC)]) s' σ H' (.ref A) (.ref A) (fun σ' H'=>D.nx σ' H') I' rfl q
 refine thn hst fun _ s2 ⟨σ2,H2,I2,q2⟩=>?_
 have hC2:s2.heap.get? C=some oC:=(I2.pin (C,oC) (zB _ (zB _ (by simp)))).1
 obtain⟨o',es,ep,ho',hd',hr'⟩:=hn
 rw[hoC] at ho';cases ho'
 exact⟨m,⟨_,es,ep,hC2,hd',hr'⟩,fun h' sb=>⟨σ2,H2,back pins σ2 H2 s2 h' I2 sb,q2⟩⟩
end
def Its (x:Str):It:=⟨fun i _=>i < x.cps.size,fun i H v H'=>H'=H/\∃c,x.cps[i]?=some c/\v = .str ⟨#[c]⟩,fun i _=>i=x.cps.size⟩
theorem XZ {P:Program}{w:World}{K:Frg}{tg:Expr}(it:Addr) (ty:String) (x:Str) (t:Tok) (hty:["enumerate", "zip", "dict_itemiterator", "dict_reverseitemiterator", "odict_iterator", "itertools.zip_longest", "itertools.pairwise"].contains ty=false)
   (W:∀A:Around,A.handled=none->Walks P w A it [it] [it] x.cps.size (SignAt x) (fun i h=>h.IsStrIter it ty x t i))
   (hself:∀(A:Around) (i:Nat) (s:Shared) (Q:Value->Shared->Prop) (E:Value->Shared->Prop),s.heap.IsStrIter it ty x t i->Q (.ref it) s->wpAny (model P w) A (pyIter (.ref it)) Q E s) :
   Turn P w K tg (Its x) [it] it (fun i h=>h.IsStrIter it ty x t i) where
 mem:=by simp
 obj:=fun i h st b hb=>by
   have e:b=it:=by simpa using hb
   subst e
   obtain⟨o,e,c,d⟩:=st
   exact⟨o,e,fun v z=>by rw[d] at z;cases z⟩
 keep:=fun i h h' st k=>by
   obtain⟨o,e,r⟩:=st
   exact⟨o,k it (by simp) o e,r⟩
 item:=by
   intro X hP hw hK hc i pins s σ H E I hf st hg
   subst hP hw hK
   obtain⟨f0,f1,f2,f3,f4,f5⟩:=hf it (by simp)
   refine(W X.A (I.ok.hd hc)).item i s _ _ hg st fun v h' tk hv st' kk=>?_
   obtain⟨c,u,hcx,rfl⟩:=hv
   have I1:Inv X pins σ H { s with heap:=h',toks:=tk }:=I.turned (fun b o hb e=>kk b o (by simpa using hb) e) f0 f1 f3 f4 f5
   obtain⟨o,e,c',d⟩:=id st'
   exact⟨_,rfl,cW (s:={ s with heap:=h',toks:=tk }) e c' d hty ⟨.str ⟨#[c]⟩,H,I1,⟨u,rfl⟩,⟨rfl,c,hcx,rfl⟩,st',fun b hb=>(hf b hb).1⟩⟩
 done:=by
   intro X hP hw hK hc i pins s σ H E I hf st hg
   subst hP hw hK
   obtain⟨f0,f1,f2,f3,f4,f5⟩:=hf it (by simp)
   have hi:i=x.cps.size:=hg
   subst hi
   refine(W X.A (I.ok.hd hc)).done s _ _ st fun h' tk kk=>⟨rfl,I.turned (fun b o hb e=>kk b o (by simpa using hb) e) f0 f1 f3 f4 f5⟩
 self:=hself
theorem VL (bs:List Bool):(a3Z bs.length).all (fun i=>(bs[i]?).getD false)=bs.all id:=by
 rw[b0Q,a6W,a6W]
 constructor
 · intro h b hb
   obtain⟨i,hi,rfl⟩:=List.mem_iff_getElem.mp hb
   have:=h i (by simpa using hi)
   simpa [hi] using this
 · intro h i hi
   have hi:i < bs.length:=by simpa using hi
   have:=h bs[i] (b7Q hi)
   simpa [hi] using this
section
variable {X:Cx}
theorem oQ {bs:List Bool}{its:List Value}(r:Vals (bs.map V.bl) its) {i:Nat}{v:Value}(h:its.toArray[i]?=some v):v = .bool ((bs[i]?).getD false):=by
 have h':its[i]?=some v:=by simpa using h
 have hl:i < its.length:=(yT.mp h').1
 have e:=r.length
 rw[zX] at e
 have hb:(bs.map V.bl)[i]?=some (V.bl bs[i]):=by rw[zF];simp[show i < bs.length by omega]
 obtain⟨u,hu,ru⟩:=r.get hb
 rw[h'] at hu;cases hu
 simp[show i < bs.length by omega]
 exact ru
def A0z (X:Cx):List V->Hp->VK->Prop:=fun xs H Q=>∃(p:Addr) (bs:List Bool),xs=[.ref p]/\SqL X.K H p (bs.map V.bl)/\Q (.bl (bs.all id)) H
theorem jR (hc:X.calm=true):BQ X (.builtin "all") (A0z X):=by
 intro pins s σ H xs us Q I r h
 obtain⟨p,bs,rfl,hp,q⟩:=h
 obtain⟨u,rfl,ru⟩:=D0 r
 cases ru
 obtain⟨its,rv,pl,hz⟩:=I.list hp
 have hne:p≠s.heap.objs.size:=by obtain⟨o,n,e,_⟩:=pl;exact zC (zM e)
 have el:=rv.length
 rw[zX] at el
 refine call_all_walk (wpAny_pyIter_list pl.isList ?_)
 refine⟨s.heap.objs.size,_,_,_,_,_,fun i=>(bs[i]?).getD false,rfl,Walks.list (show X.A.in1.handled=none from I.ok.hd hc) s.heap.objs.size p hne its.toArray,⟨⟨_,yZ _ rfl,rfl,rfl⟩,?_⟩,fun i v s' Q' E' hv hq=>?_,fun h' tk hk=>?_⟩
 · obtain⟨o,n,e,c,d,dd⟩:=pl
   exact⟨o,zW _ e,c,n,dd⟩
 · rw[oQ rv hv]
   exact wpAny_truthy_bool hq
 · refine⟨.bl (bs.all id),H,?_,?_,q⟩
   · exact I.kept (t':=tk) fun b o e=>hk b o (by simp;exact zC (zM e)) (zW _ e)
   · rw[zJ,← el,VL];rfl
def uM:V->Option Int->Option Int->Hp->VK->Prop:=fun x lo hi H Q=>∃y,x = .str y/\y.length<=sizeLine/\Q (.str (a1X y lo hi)) H
theorem uN:SlR X uM:=by
 intro pins s σ H x v vl vu lo hi sl Q I rx hs pl pu h
 obtain⟨y,rfl,hz,q⟩:=h
 obtain⟨t,rfl⟩:=rx
 refine⟨"str", _,F.slot_str_getitem.lookup,typeIs_str _ _ _,?_⟩
 cases pl with
 | none=>
   cases pu with
   | none=>exact wpAny_getItem_str_slice (l:=none) (u:=none) (st:=none) hs rfl (post_val_or_str ⟨zN (Txt.slice_le y _ _) hz,fun t' k=>⟨.str _,H,I.tok _,⟨_,rfl⟩,q⟩⟩)
   | int j tj=>exact wpAny_getItem_str_slice (l:=none) (u:=some (j,tj)) (st:=none) hs rfl (post_val_or_str ⟨zN (Txt.slice_le y _ _) hz,fun t' k=>⟨.str _,H,I.tok _,⟨_,rfl⟩,q⟩⟩)
 | int i ti=>
   cases pu with
   | none=>exact wpAny_getItem_str_slice (l:=some (i,ti)) (u:=none) (st:=none) hs rfl (post_val_or_str ⟨zN (Txt.slice_le y _ _) hz,fun t' k=>⟨.str _,H,I.tok _,⟨_,rfl⟩,q⟩⟩)
   | int j tj=>exact wpAny_getItem_str_slice (l:=some (i,ti)) (u:=some (j,tj)) (st:=none) hs rfl (post_val_or_str ⟨zN (Txt.slice_le y _ _) hz,fun t' k=>⟨.str _,H,I.tok _,⟨_,rfl⟩,q⟩⟩)
theorem PZ:∀{ys:List Str}{its:List Value},Vals (ys.map V.str) its->StrsAre its ys
 | [],_,.nil=>.nil
 | y::r,_,.cons h t=>by
   obtain⟨tk,rfl⟩:=h
   exact .cons y tk (PZ t)
def jS (K:Frg):V->List V->Hp->VK->Prop:=fun x xs H Q=>∃(y:Str) (p:Addr) (ys:List Str),x = .str y/\xs=[.ref p]/\SqL K H p (ys.map V.str)/\(ys.map (·.length)).sum+ys.length*y.length<=16777216/\Q (.str (a7K y ys)) H
theorem oR:MtR X "str.join" (jS X.K):=by
 intro pins s σ H x xs v us Q I rx rv h
 obtain⟨y,p,ys,rfl,rfl,hp,hz,q⟩:=h
 obtain⟨t,rfl⟩:=rx
 obtain⟨u,rfl,ru⟩:=D0 rv
 cases ru
 obtain⟨its,r,pl,_⟩:=I.list hp
 exact join_list pl.isList (by simpa using PZ r) hz fun t' k=>⟨.str _,H,I.tok _,⟨_,rfl⟩,q⟩
def sL (K:Frg):R2:=fun x y H Q=>∃a b xs ys,x = .ref a/\y = .ref b/\SqL K H a xs/\SqL K H b ys/\xs.length+ys.length<=sizeLine/\∀p,H p=none->Q (.ref p) (upd H p (.lst (xs++ys)))
theorem oS:OpR X (binaryOp .Add) (sL X.K):=by
 intro pins s σ H x y v u Q I rx ry h
 obtain⟨l,b,xs,zs,rfl,rfl,hH,hB,hz,q⟩:=h
 cases rx
 cases ry
 obtain⟨its,r,pl,hl⟩:=I.list hH
 obtain⟨its2,r2,pl2,hl2⟩:=I.list hB
 have e1:=r.length
 have e2:=r2.length
 obtain⟨⟨cls,dd,data,sl⟩,n,ho,hc,_,hd⟩:=pl
 obtain⟨⟨cls2,dd2,data2,sl2⟩,n2,ho2,hc2,_,hd2⟩:=pl2
 dsimp only at hc hd hc2 hd2
 subst hc hd hc2 hd2
 have ea:its.toArray++its2.toArray=(its++its2).toArray:=by simp
 have fin:EP X pins σ Q (.ref s.heap.objs.size) { s with heap:=s.heap.push { cls:=.type "list", data:=.seq (its.toArray++its2.toArray) } }:=by
   rw[ea]
   exact⟨.ref _,_,I.lnew (t':=s.toks) (r.append r2) (by rw[yY];omega),rfl,q _ I.fresh⟩
 exact concat_meets ⟨_,ho,rfl⟩ ⟨_,ho2,rfl⟩ noFill_list_add seq_list_add PySem.F.slot_list_add PySem.F.entry_list_add (PySem.F.args_list_add_2 _ _) (list_addW l b its.toArray its2.toArray n n2 dd dd2 sl sl2 (by rw[zJ,zJ];omega)) ⟨ho,ho2,fin⟩
def sM (i j:Int):Prop:=0 < j/\j < 2 ^ 64
theorem jT:OpR X (binaryOp .FloorDiv) (rI sM fun i j=>.int (i/j)):=opI fun i j _ _ _ _ _ hc q=>by
 have h1:(0:Int) < j:=hc.1
 have h2:j.natAbs.log2 < 9000:=by
   have h0:j.natAbs≠0:=by omega
   have:j.natAbs < 2 ^ 64:=by have:=hc.2;omega
   exact zP ((Nat.log2_lt h0).mpr this) (by decide)
 exact floordiv_int (by omega) (by rw[Int.fdiv_eq_ediv_of_nonneg i (by omega)];exact q) (.inl (PyProof.noPylong_of_log2 h2))
end
end L2
namespace L2
open PySem PySem.Spec PyProof.Rows
def jU:Key->PyData
 | .inl i=>.int i
 | .inr x=>.str x
def LW (K:Frg) (H:Hp) (W:Addr->Prop) (a:Addr) (xs:List V):Prop:=
 (¬W a/\Rd H a (.lst xs))∨∃(o:Obj) (its:Array Value) (n:Nat),K.lookup a=some o/\o.cls = .type "list" /\ o.dict=none/\o.data = .seq its n/\its.size<=sizeLine/\Vals xs its.toList
def TW (K:Frg) (H:Hp) (W:Addr->Prop) (a:Addr) (xs:List V):Prop:=
 (¬W a/\Rd H a (.tup xs))∨∃(o:Obj) (its:Array Value) (n:Nat),K.lookup a=some o/\o.cls = .type "tuple" /\ o.data = .seq its n/\its.size<=sizeLine/\Vals xs its.toList
theorem LW.sq {K:Frg}{H:Hp}{W:Addr->Prop}{a:Addr}{xs:List V}(h:LW K H W a xs):SqL K H a xs:=h.elim (fun z=>.inl z.2) .inr
theorem TW.sq {K:Frg}{H:Hp}{W:Addr->Prop}{a:Addr}{xs:List V}(h:TW K H W a xs):SqT K H a xs:=h.elim (fun z=>.inl z.2) .inr
mutual
def DV (K:Frg) (H:Hp) (W:Addr->Prop):PyData->V->Prop
 | .none,v=>v = .non
 | .bool b,v=>v = .bl b
 | .int i,v=>v = .int i
 | .str x,v=>v = .str x
 | .list ds,v=>∃a vs,v = .ref a/\LW K H W a vs/\DVs K H W ds vs
 | .tuple ds,v=>∃a vs,v = .ref a/\TW K H W a vs/\DVs K H W ds vs
 | .dict kvs,v=>∃a kvs',v = .ref a/\¬W a/\Rd H a (.dK kvs')/\DKV K H W kvs kvs'
def DVs (K:Frg) (H:Hp) (W:Addr->Prop):List PyData->List V->Prop
 | [],vs=>vs=[]
 | d::ds,vs=>∃v r,vs=v::r/\DV K H W d v/\DVs K H W ds r
def DKV (K:Frg) (H:Hp) (W:Addr->Prop):List (PyData×PyData)->List (Key×V)->Prop
 | [],vs=>vs=[]
 | (k,d)::ds,vs=>∃k' v r,vs=(k',v)::r/\k=jU k'/\DV K H W d v/\DKV K H W ds r
end
structure Grow (K:Frg) (W W':Addr->Prop) (H H':Hp):Prop where
 keep:∀b o,H b=some o->¬W b->H' b=some o∨∃ks ob,o = .dK ks/\H' b=some (.frz ob o)
 new:∀b,W' b->W b∨H b=none
theorem Grow.refl {K:Frg}{W:Addr->Prop}{H:Hp}:Grow K W W H H:=⟨fun _ _ h _=>.inl h,fun _ h=>.inl h⟩
section
variable {K:Frg}{W W' W2:Addr->Prop}{H H' H2:Hp}
theorem Rd.grow (g:Grow K W W' H H') {a:Addr}{o:HO}(nw:¬W a) (h:Rd H a o):Rd H' a o:=by
 rcases h with h | ⟨o',h⟩
 · rcases g.keep _ _ h nw with e | ⟨ks,ob,_,e⟩
   · exact .inl e
   · exact .inr ⟨ob,e⟩
 · rcases g.keep _ _ h nw with e | ⟨ks,ob,e,_⟩
   · exact .inr ⟨o',e⟩
   · cases e
theorem Grow.kept (g:Grow K W W' H H') {a:Addr}{o:HO}(h:H a=some o) (nw:¬W a) (n:∀ks,o≠.dK ks):H' a=some o:=(g.keep a o h nw).elim id fun⟨ks,_,e,_⟩=>absurd e (n ks)
theorem Rd.ne_none {H:Hp}{a:Addr}{o:HO}(h:Rd H a o):H a≠none:=by
 rcases h with h | ⟨o',h⟩ <;> rw[h] <;> simp
theorem Rd.nw (g:Grow K W W' H H') {a:Addr}{o:HO}(nw:¬W a) (h:Rd H a o):¬W' a:=fun w=>by
 rcases g.new a w with z | z
 · exact nw z
 · exact Rd.ne_none h z
theorem LW.grow (g:Grow K W W' H H') {a:Addr}{xs:List V}(h:LW K H W a xs):LW K H' W' a xs:=h.elim (fun z=>.inl ⟨z.2.nw g z.1,z.2.grow g z.1⟩) .inr
theorem TW.grow (g:Grow K W W' H H') {a:Addr}{xs:List V}(h:TW K H W a xs):TW K H' W' a xs:=h.elim (fun z=>.inl ⟨z.2.nw g z.1,z.2.grow g z.1⟩) .inr
mutual
theorem DV.grow (g:Grow K W W' H H'):∀{d:PyData}{v:V},DV K H W d v->DV K H' W' d v
 | .none,v,h=>by unfold DV at h ⊢;exact h
 | .bool b,v,h=>by unfold DV at h ⊢;exact h
 | .int i,v,h=>by unfold DV at h ⊢;exact h
 | .str x,v,h=>by unfold DV at h ⊢;exact h
 | .list ds,v,h=>by
   unfold DV at h ⊢
   obtain⟨a,vs,e,hs,hd⟩:=h
   exact⟨a,vs,e,hs.grow g,DVs.grow g hd⟩
 | .tuple ds,v,h=>by
   unfold DV at h ⊢
   obtain⟨a,vs,e,hs,hd⟩:=h
   exact⟨a,vs,e,hs.grow g,DVs.grow g hd⟩
 | .dict kvs,v,h=>by
   unfold DV at h ⊢
   obtain⟨a,vs,e,nw,hs,hd⟩:=h
   exact⟨a,vs,e,hs.nw g nw,hs.grow g nw,DKV.grow g hd⟩
theorem DVs.grow (g:Grow K W W' H H'):∀{ds:List PyData}{vs:List V},DVs K H W ds vs->DVs K H' W' ds vs
 | [],vs,h=>by unfold DVs at h ⊢;exact h
 | d::ds,vs,h=>by
   unfold DVs at h ⊢
   obtain⟨v,r,e,h1,h2⟩:=h
   exact⟨v,r,e,DV.grow g h1,DVs.grow g h2⟩
theorem DKV.grow (g:Grow K W W' H H'):∀{ds:List (PyData×PyData)}{vs:List (Key×V)},DKV K H W ds vs->DKV K H' W' ds vs
 | [],vs,h=>by unfold DKV at h ⊢;exact h
 | (k,d)::ds,vs,h=>by
   unfold DKV at h ⊢
   obtain⟨k',v,r,e,e2,h1,h2⟩:=h
   exact⟨k',v,r,e,e2,DV.grow g h1,DKV.grow g h2⟩
end
theorem Grow.trans (a:Grow K W W' H H') (b:Grow K W' W2 H' H2):Grow K W W2 H H2:=by
 refine⟨fun x o h nw=>?_,fun x w=>?_⟩
 · have nw':¬W' x:=fun w=>by
     rcases a.new x w with z | z
     · exact nw z
     · rw[h] at z;cases z
   rcases a.keep x o h nw with e | ⟨ks,ob,e1,e2⟩
   · exact b.keep x o e nw'
   · exact .inr ⟨ks,ob,e1,b.kept e2 nw' fun _ z=>nomatch z⟩
 · rcases b.new x w with z | z1
   · exact a.new x z
   · by_cases hx:W x
     · exact .inl hx
     · refine .inr ?_
       cases e:H x with
       | none=>rfl
       | some o=>
         rcases a.keep x o e hx with q | ⟨_,_,_,q⟩ <;> (rw[q] at z1;cases z1)
theorem DVs.length:∀{ds:List PyData}{vs:List V},DVs K H W ds vs->vs.length=ds.length
 | [],vs,h=>by unfold DVs at h;subst h;rfl
 | d::ds,vs,h=>by
   unfold DVs at h
   obtain⟨v,r,e,h1,h2⟩:=h
   subst e
   simp[DVs.length h2]
theorem DVs.get:∀{ds:List PyData}{vs:List V}{i:Nat}{v:V},DVs K H W ds vs->vs[i]?=some v->∃d,ds[i]?=some d/\DV K H W d v
 | [],vs,i,v,h,e=>by unfold DVs at h;subst h;simp at e
 | d::ds,vs,i,v,h,e=>by
   unfold DVs at h
   obtain⟨u,r,e',h1,h2⟩:=h
   subst e'
   cases i with
   | zero=>simp at e;subst e;exact⟨d,rfl,h1⟩
   | succ i=>simpa using DVs.get h2 (by simpa using e)
theorem DVs.get':∀{ds:List PyData}{vs:List V}{i:Nat}{d:PyData},DVs K H W ds vs->ds[i]?=some d->∃v,vs[i]?=some v/\DV K H W d v
 | [],vs,i,v,h,e=>by simp at e
 | d::ds,vs,i,v,h,e=>by
   unfold DVs at h
   obtain⟨u,r,e',h1,h2⟩:=h
   subst e'
   cases i with
   | zero=>simp at e;subst e;exact⟨u,rfl,h1⟩
   | succ i=>simpa using DVs.get' h2 (by simpa using e)
theorem DVs.nil:DVs K H W [] []:=by unfold DVs;rfl
theorem DVs.cons {d:PyData}{v:V}{ds:List PyData}{vs:List V}(h:DV K H W d v) (t:DVs K H W ds vs):DVs K H W (d::ds) (v::vs):=by unfold DVs;exact⟨v,vs,rfl,h,t⟩
theorem DVs.append:∀{ds es:List PyData}{vs us:List V},DVs K H W ds vs->DVs K H W es us->DVs K H W (ds++es) (vs++us)
 | [],es,vs,us,h,t=>by unfold DVs at h;subst h;exact t
 | d::ds,es,vs,us,h,t=>by
   unfold DVs at h
   obtain⟨u,r,e',h1,h2⟩:=h
   subst e'
   exact DVs.cons h1 (DVs.append h2 t)
theorem DVs.set:∀{ds:List PyData}{vs:List V}{d:PyData}{v:V}(i:Nat),DVs K H W ds vs->DV K H W d v->DVs K H W (ds.set i d) (vs.set i v)
 | [],vs,d,v,i,h,t=>by unfold DVs at h;subst h;exact DVs.nil
 | e::ds,vs,d,v,i,h,t=>by
   unfold DVs at h
   obtain⟨u,r,e',h1,h2⟩:=h
   subst e'
   cases i with
   | zero=>exact DVs.cons t h2
   | succ i=>exact DVs.cons h1 (DVs.set i h2 t)
theorem DVs.drop:∀{ds:List PyData}{vs:List V}(i:Nat),DVs K H W ds vs->DVs K H W (ds.drop i) (vs.drop i)
 | ds,vs,0,h=>h
 | [],vs,i+1,h=>by unfold DVs at h;subst h;exact DVs.nil
 | e::ds,vs,i+1,h=>by
   unfold DVs at h
   obtain⟨u,r,e',h1,h2⟩:=h
   subst e'
   exact DVs.drop i h2
theorem DVs.take:∀{ds:List PyData}{vs:List V}(i:Nat),DVs K H W ds vs->DVs K H W (ds.take i) (vs.take i)
 | ds,vs,0,h=>DVs.nil
 | [],vs,i+1,h=>by unfold DVs at h;subst h;exact DVs.nil
 | e::ds,vs,i+1,h=>by
   unfold DVs at h
   obtain⟨u,r,e',h1,h2⟩:=h
   subst e'
   exact DVs.cons h1 (DVs.take i h2)
theorem UA:∀{bs:List Bool}{vs:List V},DVs K H W (bs.map PyData.bool) vs->vs=bs.map V.bl
 | [],vs,h=>by unfold DVs at h;exact h
 | b::bs,vs,h=>by
   simp only[zI] at h
   unfold DVs at h
   obtain⟨u,r,e',h1,h2⟩:=h
   unfold DV at h1
   subst e' h1
   rw[UA h2];rfl
theorem J7:∀{bs:List Str}{vs:List V},DVs K H W (bs.map a0X) vs->vs=bs.map V.str
 | [],vs,h=>by unfold DVs at h;exact h
 | b::bs,vs,h=>by
   simp only[zI] at h
   unfold DVs at h
   obtain⟨u,r,e',h1,h2⟩:=h
   unfold DV at h1
   subst e' h1
   rw[J7 h2];rfl
end
section
variable {X:Cx}{pins:List (Addr×Obj)}{σ:St}{H:Hp}{s:Shared}{W:Addr->Prop}
mutual
theorem DV.reads (I:Inv X pins σ H s):∀{d:PyData}{v:V}{u:Value},d.canLay0=true->DV X.K H W d v->RelV v u->∃as,PySem.Reads s.heap u d as
 | .none,v,u,c,h,r=>by unfold DV at h;subst h;cases r;exact⟨_,.none⟩
 | .bool b,v,u,c,h,r=>by unfold DV at h;subst h;cases r;exact⟨_,.bool b⟩
 | .int i,v,u,c,h,r=>by unfold DV at h;subst h;obtain⟨t,rfl⟩:=r;exact⟨_,.int i t⟩
 | .str x,v,u,c,h,r=>by unfold DV at h;subst h;obtain⟨t,rfl⟩:=r;exact⟨_,.str x t⟩
 | .list ds,v,u,c,h,r=>by
   unfold DV at h
   obtain⟨a,vs,rfl,hs,hd⟩:=h
   cases r
   obtain⟨its,rv,⟨o,n,e,hc,_,dd⟩,_⟩:=I.list hs.sq
   obtain⟨as,q⟩:=DVs.reads I (by simpa [b9W] using c) hd rv
   exact⟨_,.list e hc dd (by simpa using q)⟩
 | .tuple ds,v,u,c,h,r=>by
   unfold DV at h
   obtain⟨a,vs,rfl,hs,hd⟩:=h
   cases r
   obtain⟨its,rv,⟨o,e,hc,n,dd⟩,_⟩:=I.tuple hs.sq
   obtain⟨as,q⟩:=DVs.reads I (by simpa [b9W] using c) hd rv
   exact⟨_,.tuple e hc dd (by simpa using q)⟩
 | .dict kvs,v,u,c,h,r=>by simp[b9W] at c
theorem DVs.reads (I:Inv X pins σ H s):∀{ds:List PyData}{vs:List V}{us:List Value},c0Z ds=true->DVs X.K H W ds vs->Vals vs us->∃as,PySem.ReadsAll s.heap us ds as
 | [],vs,us,c,h,r=>by unfold DVs at h;subst h;cases r;exact⟨_,.nil⟩
 | d::ds,vs,us,c,h,r=>by
   unfold DVs at h
   obtain⟨v,q,rfl,h1,h2⟩:=h
   cases r with
   | cons r1 r2=>
     simp[c0Z] at c
     obtain⟨as,q1⟩:=DV.reads I c.1 h1 r1
     obtain⟨bs,q2⟩:=DVs.reads I c.2 h2 r2
     exact⟨_,.cons q1 q2⟩
end
def gJ (K:Frg) (neg:Bool):R2:=fun x y H Q=>∃(W:Addr->Prop) (da db:PyData),DV K H W da x/\DV K H W db y/\zH da=true/\zH db=true/\Q (.bl (if neg then !a0W da db else a0W da db)) H
theorem uO (hu:X.A.units+64 < cLine):OpR X (compareOp .Eq) (gJ X.K false):=by
 intro pins s σ H x y v u Q I rx ry h
 obtain⟨W,da,db,h1,h2,s1,s2,q⟩:=h
 obtain⟨as,r1⟩:=h1.reads I (zG s1) rx
 obtain⟨bs,r2⟩:=h2.reads I (zG s2) ry
 exact PySem.SeqAt.compareEq_shaped r1 r2 s1 s2 hu ⟨.bl _,H,I,rfl,q⟩
theorem uP (hu:X.A.units+64 < cLine):OpR X (compareOp .NotEq) (gJ X.K true):=by
 intro pins s σ H x y v u Q I rx ry h
 obtain⟨W,da,db,h1,h2,s1,s2,q⟩:=h
 obtain⟨as,r1⟩:=h1.reads I (zG s1) rx
 obtain⟨bs,r2⟩:=h2.reads I (zG s2) ry
 exact PySem.SeqAt.compareNe_shaped r1 r2 s1 s2 hu ⟨.bl _,H,I,rfl,q⟩
end
end L2
namespace DL
open PySem PySem.Spec L2
abbrev St:=L2.St
inductive MO where
 | l (ds:List PyData)
 | d (kvs:List (PyData×PyData))
 | t (kvs:List (List Key×PyData))
 | x (C:Addr) (fs:List (Str×PyData))
abbrev Own:=Addr->Option MO
def Own.W (M:Own):Addr->Prop:=fun a=>M a≠none
def Own.put (M:Own) (a:Addr) (o:MO):Own:=fun b=>if b=a then some o else M b
def Own.del (M:Own) (a:Addr):Own:=fun b=>if b=a then none else M b
def Own.Sub (M N:Own):Prop:=∀a o,M a=some o->N a=some o
theorem zU {M:Own}{a:Addr}{o:MO}:M.put a o a=some o:=by unfold Own.put;rw[if_pos rfl]
theorem yH {M:Own}{a b:Addr}{o:MO}(h:b≠a):M.put a o b=M b:=by unfold Own.put;rw[if_neg h]
theorem yI {M:Own}{a:Addr}{o o':MO}:(M.put a o).put a o'=M.put a o':=by
 funext b;unfold Own.put;by_cases h:b=a <;> simp[h]
theorem yG {M:Own}{a:Addr}{o:MO}(h:M a=none):(M.put a o).del a=M:=by
 funext b;unfold Own.put Own.del
 by_cases e:b=a
 · subst e;simp[h]
 · simp[e]
theorem Own.put_self {M:Own}{a:Addr}{o:MO}(h:M a=some o):M.put a o=M:=by
 funext b;unfold Own.put
 by_cases e:b=a
 · subst e;simp[h]
 · simp[e]
theorem zT (M:Own):M.Sub M:=fun _ _ h=>h
theorem Own.Sub.put {M N:Own}{a:Addr}{o:MO}(h:M.Sub N) (n:M a=none):M.Sub (N.put a o):=fun b x e=>by
 rw[yH (by rintro rfl;rw[n] at e;cases e)];exact h b x e
inductive DS where
 | d (x:PyData)
 | loc (a:Addr)
 | ty (n:String)
 | tl (ds:List PyData) (a:Addr)
def SI (K:Frg) (H:Hp) (M:Own):DS->V->Prop
 | .d x,v=>DV K H M.W x v
 | .loc a,v=>v = .ref a
 | .ty n,v=>v = .ty n
 | .tl ds a,v=>∃b vs,v = .ref b/\TW K H M.W b (vs++[.ref a])/\DVs K H M.W ds vs
def SIs (K:Frg) (H:Hp) (M:Own):List DS->List V->Prop
 | [],vs=>vs=[]
 | d::ds,vs=>∃v r,vs=v::r/\SI K H M d v/\SIs K H M ds r
def XI (K:Frg) (H:Hp) (W:Addr->Prop):Option Addr->List (Str×PyData)->Prop
 | none,[]=>True
 | some d,[(n,x)]=>∃v,¬W d/\H d=some (.xd [(n,v)])/\DV K H W x v
 | _,_=>False
theorem XI.grow {K:Frg}{W W':Addr->Prop}{H H':Hp}(g:Grow K W W' H H') {dd:Option Addr}{fs:List (Str×PyData)}(h:XI K H W dd fs):XI K H' W' dd fs:=by
 unfold XI at h ⊢
 split at h
 · trivial
 · obtain⟨v,nw,a,b⟩:=h
   exact⟨v,fun z=>(g.new _ z).elim nw fun q=>by(rw[a] at q;cases q),g.kept a nw (fun _ z=>nomatch z),b.grow g⟩
 · exact h.elim
def exK (a C:Addr) (dd:Option Addr):HO:=.ext fun h=>∃o vs,h.get? a=some o/\o.cls = .ref C/\o.dict=dd/\o.data = .fields vs
def DTV (K:Frg) (H:Hp) (W:Addr->Prop) (kvs:List (List Key×PyData)) (ks:List (List Key×V)):Prop:=ks.map (·.1)=kvs.map (·.1)/\DVs K H W (kvs.map (·.2)) (ks.map (·.2))
theorem DTV.grow {K:Frg}{W W':Addr->Prop}{H H':Hp}(g:Grow K W W' H H') {kvs:List (List Key×PyData)}{ks:List (List Key×V)}(h:DTV K H W kvs ks):DTV K H' W' kvs ks:=⟨h.1,h.2.grow g⟩
def OA1 (K:Frg) (H:Hp) (M:Own) (a:Addr):MO->Prop
 | .x C fs=>∃dd,H a=some (exK a C dd)/\XI K H M.W dd fs
 | .l ds=>∃vs,H a=some (.lst vs)/\DVs K H M.W ds vs
 | .d kvs=>∃ks,H a=some (.dK ks)/\DKV K H M.W kvs ks
 | .t kvs=>∃ks,H a=some (.dT ks)/\DTV K H M.W kvs ks
def OA (K:Frg) (H:Hp) (M:Own):Prop:=∀a o,M a=some o->OA1 K H M a o
structure Step (K:Frg) (M M':Own) (H H':Hp):Prop where
 grow:Grow K M.W M'.W H H'
structure Rel (K:Frg) (M:Own) (ρ:List (Option DS)) (σ:St) (H:Hp):Prop where
 own:OA K H M
 len:ρ.length=σ.length
 slot:∀(i:Nat) x,ρ[i]?=some (some x)->∃v,σ[i]?=some (some v)/\SI K H M x v
section
variable {K:Frg}{M M' M2:Own}{H H' H2:Hp}{ρ:List (Option DS)}{σ:St}
theorem Step.refl:Step K M M H H:=⟨Grow.refl⟩
theorem Step.trans (a:Step K M M' H H') (b:Step K M' M2 H' H2):Step K M M2 H H2:=⟨a.grow.trans b.grow⟩
theorem SI.step (st:Step K M M' H H'):∀{x:DS}{v:V},SI K H M x v->SI K H' M' x v
 | .d _,_,h=>DV.grow st.grow h
 | .loc _,_,h=>h
 | .ty _,_,h=>h
 | .tl _ _,_,⟨b,vs,e,h1,h2⟩=>⟨b,vs,e,h1.grow st.grow,h2.grow st.grow⟩
theorem Rel.step (R:Rel K M ρ σ H) (oa:OA K H' M') (st:Step K M M' H H'):Rel K M' ρ σ H':=
 ⟨oa,R.len,fun i x e=>let ⟨v,h1,h2⟩:=R.slot i x e;⟨v,h1,h2.step st⟩⟩
theorem Rel.set (R:Rel K M ρ σ H) {x:DS}{v:V}(h:SI K H M x v) (i:Nat):Rel K M (ρ.set i (some x)) (σ.set i (some v)) H:=by
 refine⟨R.own,by rw[List.length_set,List.length_set];exact R.len,fun j y e=>?_⟩
 rw[List.getElem?_set] at e ⊢
 by_cases hij:i=j
 · rw[if_pos hij] at e ⊢
   subst hij
   by_cases hl:i < ρ.length
   · rw[if_pos hl] at e
     cases e
     rw[if_pos (by rw[← R.len];exact hl)]
     exact⟨v,rfl,h⟩
   · rw[if_neg hl] at e;cases e
 · rw[if_neg hij] at e ⊢
   exact R.slot j y e
theorem OA.none (oa:OA K H M) {p:Addr}(h:H p=c1Z):M p=c1Z:=by
 cases e:M p with
 | none=>rfl
 | some o=>
   have:=oa p o e
   cases o <;> (obtain⟨vs,q,_⟩:=this;rw[h] at q;cases q)
theorem AU {p:Addr}{o:HO}(W:Addr->Prop) (h:H p=c1Z):Grow K W W H (upd H p o):=
 ⟨fun b u e _=>.inl (by rw[AN (AZ e h)];exact e),fun _ w=>.inl w⟩
theorem OA.grow (oa:OA K H M) (g:Grow K M.W M.W H H') (hk:∀a o,M a=some o->H' a=H a):OA K H' M:=fun a o e=>by
 have q:=oa a o e
 cases o <;> (obtain⟨vs,q1,q2⟩:=q;exact⟨vs,by rw[hk a _ e];exact q1,q2.grow g⟩)
theorem OA.new {p:Addr}{o:HO}(oa:OA K H M) (h:H p=c1Z):OA K (upd H p o) M:=oa.grow (AU _ h) fun a x e=>by
 rw[AN (by rintro rfl;rw[oa.none h] at e;cases e)]
theorem dH {p:Addr}{vs:List V}{ds:List PyData}(oa:OA K H M) (h:H p=c1Z) (hd:DVs K H M.W ds vs) :
   OA K (upd H p (.lst vs)) (M.put p (.l ds))/\Step K M (M.put p (.l ds)) H (upd H p (.lst vs)):=by
 have hM:=oa.none h
 have g:Grow K M.W (M.put p (.l ds)).W H (upd H p (.lst vs)):=⟨fun b u e _=>.inl (by rw[AN (AZ e h)];exact e),fun b w=>by
   by_cases hb:b=p
   · subst hb;exact .inr h
   · left;unfold Own.W at w ⊢;rw[yH hb] at w;exact w⟩
 refine⟨fun a o e=>?_,⟨g⟩⟩
 · by_cases ha:a=p
   · subst ha;rw[zU] at e;cases e;exact⟨vs,AH,hd.grow g⟩
   · rw[yH ha] at e
     have q:=oa a o e
     cases o <;> (obtain⟨vs,q1,q2⟩:=q;exact⟨vs,by rw[AN ha];exact q1,q2.grow g⟩)
theorem NU {p:Addr}{vs':List V}{ds':List PyData}{o:MO}(oa:OA K H M) (h:M p=some o) (hd:DVs K H M.W ds' vs') :
   OA K (upd H p (.lst vs')) (M.put p (.l ds'))/\Step K M (M.put p (.l ds')) H (upd H p (.lst vs')):=by
 have hw:∀b,(M.put p (.l ds')).W b->M.W b:=fun b w=>by
   unfold Own.W at w ⊢
   by_cases hb:b=p
   · subst hb;rw[h];simp
   · rw[yH hb] at w;exact w
 have g:Grow K M.W (M.put p (.l ds')).W H (upd H p (.lst vs')):=⟨fun b u e nw=>.inl (by
   rw[AN (by rintro rfl;exact nw (by unfold Own.W;rw[h];simp))];exact e),fun b w=>.inl (hw b w)⟩
 refine⟨fun a o e=>?_,⟨g⟩⟩
 · by_cases ha:a=p
   · subst ha;rw[zU] at e;cases e;exact⟨vs',AH,hd.grow g⟩
   · rw[yH ha] at e
     have q:=oa a o e
     cases o <;> (obtain⟨vs,q1,q2⟩:=q;exact⟨vs,by rw[AN ha];exact q1,q2.grow g⟩)
theorem BR (hs:M'.Sub M):Grow K M.W M'.W H H:=⟨fun _ _ e _=>.inl e,fun b w=>.inl (by
 unfold Own.W at w ⊢
 cases e:M' b with
 | none=>exact absurd e w
 | some o=>rw[hs b o e];simp)⟩
theorem OA.sub (oa:OA K H M) (hs:M'.Sub M):OA K H M':=fun a o e=>by
 have q:=oa a o (hs a o e)
 cases o <;> (obtain⟨vs,q1,q2⟩:=q;exact⟨vs,q1,q2.grow (BR hs)⟩)
theorem SI.sub (hs:M'.Sub M):∀{x:DS}{v:V},SI K H M x v->SI K H M' x v
 | .d _,_,h=>DV.grow (BR hs) h
 | .loc _,_,h=>h
 | .ty _,_,h=>h
 | .tl _ _,_,⟨b,vs,e,h1,h2⟩=>⟨b,vs,e,h1.grow (BR hs),h2.grow (BR hs)⟩
end
def DE (K:Frg) (t:TE) (ρ:List (Option DS)) (M:Own) (Q:DS->Own->Prop):Prop:=
 ∀(σ:St) (H:Hp) (QQ:VK),Rel K M ρ σ H->(∀v H' x M',OA K H' M'->SI K H' M' x v->Step K M M' H H'->Q x M'->QQ v H')->t σ H QQ
def DT (K:Frg) (t:TT) (ρ:List (Option DS)) (M:Own) (Q:Bool->Own->Prop):Prop:=
 ∀(σ:St) (H:Hp) (QQ:Bool->Hp->Prop),Rel K M ρ σ H->(∀b H' M',OA K H' M'->Step K M M' H H'->Q b M'->QQ b H')->t σ H QQ
def DA (K:Frg) (t:TA) (ρ:List (Option DS)) (M:Own) (Q:List DS->Own->Prop):Prop:=
 ∀(σ:St) (H:Hp) (QQ:List V->Hp->Prop),Rel K M ρ σ H->(∀vs H' xs M',OA K H' M'->SIs K H' M' xs vs->Step K M M' H H'->Q xs M'->QQ vs H')->t σ H QQ
def DP (K:Frg) (t:TO) (ρ:List (Option DS)) (M:Own) (Q:Option Int->Own->Prop):Prop:=
 ∀(σ:St) (H:Hp) (QQ:Option Int->Hp->Prop),Rel K M ρ σ H->(∀b H' M',OA K H' M'->Step K M M' H H'->Q b M'->QQ b H')->t σ H QQ
structure EndsD where
 nx:List (Option DS)->Own->Prop
 rt:DS->Own->Prop
 bk:List (Option DS)->Own->Prop:=fun _ _=>False
 ct:List (Option DS)->Own->Prop:=fun _ _=>False
def DSt (K:Frg) (t:TS) (ρ:List (Option DS)) (M:Own) (D:EndsD):Prop:=
 ∀(σ:St) (H:Hp) (E:Ends),Rel K M ρ σ H->(∀ρ' M' σ' H',Rel K M' ρ' σ' H'->Step K M M' H H'->D.nx ρ' M'->E.nx σ' H')->(∀v H' x M',OA K H' M'->SI K H' M' x v->Step K M M' H H'->D.rt x M'->E.rt v H') ->
   (∀ρ' M' σ' H',Rel K M' ρ' σ' H'->Step K M M' H H'->D.bk ρ' M'->E.bk σ' H')->(∀ρ' M' σ' H',Rel K M' ρ' σ' H'->Step K M M' H H'->D.ct ρ' M'->E.ct σ' H')->t E σ H
def D1 (K:Frg) (r:V->Hp->VK->Prop) (x:DS) (M:Own) (Q:DS->Own->Prop):Prop:=
 ∀(H:Hp) (v:V) (QQ:VK),OA K H M->SI K H M x v->(∀w H' z M',OA K H' M'->SI K H' M' z w->Step K M M' H H'->Q z M'->QQ w H')->r v H QQ
def D2 (K:Frg) (r:R2) (x y:DS) (M:Own) (Q:DS->Own->Prop):Prop:=
 ∀(H:Hp) (v u:V) (QQ:VK),OA K H M->SI K H M x v->SI K H M y u->(∀w H' z M',OA K H' M'->SI K H' M' z w->Step K M M' H H'->Q z M'->QQ w H')->r v u H QQ
def DR (K:Frg) (r:List V->Hp->VK->Prop) (xs:List DS) (M:Own) (Q:DS->Own->Prop):Prop:=
 ∀(H:Hp) (vs:List V) (QQ:VK),OA K H M->SIs K H M xs vs->(∀w H' z M',OA K H' M'->SI K H' M' z w->Step K M M' H H'->Q z M'->QQ w H')->r vs H QQ
def DM (K:Frg) (r:V->List V->Hp->VK->Prop) (x:DS) (xs:List DS) (M:Own) (Q:DS->Own->Prop):Prop:=
 ∀(H:Hp) (v:V) (vs:List V) (QQ:VK),OA K H M->SI K H M x v->SIs K H M xs vs->(∀w H' z M',OA K H' M'->SI K H' M' z w->Step K M M' H H'->Q z M'->QQ w H')->r v vs H QQ
def DSl (K:Frg) (r:V->Option Int->Option Int->Hp->VK->Prop) (x:DS) (lo hi:Option Int) (M:Own) (Q:DS->Own->Prop):Prop:=
 ∀(H:Hp) (v:V) (QQ:VK),OA K H M->SI K H M x v->(∀w H' z M',OA K H' M'->SI K H' M' z w->Step K M M' H H'->Q z M'->QQ w H')->r v lo hi H QQ
def DTy (K:Frg) (T:String) (x:DS) (M:Own):Prop:=∀(H:Hp) (v:V),OA K H M->SI K H M x v->tyV K T v H
section
variable {K:Frg}{ρ:List (Option DS)}{M:Own}{Q:DS->Own->Prop}{QB:Bool->Own->Prop}{ta tb tc:TE}{tA tB':TT}{r r':R2}
theorem dI {t:TE}{Q':DS->Own->Prop}(h:DE K t ρ M Q) (hq:∀x M',Q x M'->Q' x M'):DE K t ρ M Q':=fun σ H QQ R k=>h σ H QQ R fun v H' x M' a b c q=>k v H' x M' a b c (hq x M' q)
theorem uQ {i:Nat}{x:DS}(e:ρ[i]?=some (some x)) (h:Q x M):DE K (nU i) ρ M Q:=fun σ H QQ R k=>by
 obtain⟨v,h1,h2⟩:=R.slot i x e
 exact⟨v,h1,k v H x M R.own h2 Step.refl h⟩
theorem uR {i:Int}(h:Q (.d (.int i)) M):DE K (tC (.int i)) ρ M Q:=fun σ H QQ R k=>k _ H (.d (.int i)) M R.own (by unfold SI DV;rfl) Step.refl h
theorem A0D {i:Bool}(h:Q (.d (.bool i)) M):DE K (tC (.bl i)) ρ M Q:=fun σ H QQ R k=>k _ H (.d (.bool i)) M R.own (by unfold SI DV;rfl) Step.refl h
theorem uS {i:Str}(h:Q (.d (.str i)) M):DE K (tC (.str i)) ρ M Q:=fun σ H QQ R k=>k _ H (.d (.str i)) M R.own (by unfold SI DV;rfl) Step.refl h
theorem uT (h:Q (.d .none) M):DE K (tC .non) ρ M Q:=fun σ H QQ R k=>k _ H (.d .none) M R.own (by unfold SI DV;rfl) Step.refl h
theorem A0E {n:String}(h:Q (.ty n) M):DE K (tC (.ty n)) ρ M Q:=fun σ H QQ R k=>k _ H (.ty n) M R.own rfl Step.refl h
theorem A0F (h:DE K ta ρ M fun x M1=>DE K tb ρ M1 fun y M2=>D2 K r x y M2 Q):DE K (tOp r ta tb) ρ M Q:=fun σ H QQ R k=>
 h σ H _ R fun v H1 x M1 o1 s1 t1 h1=>h1 σ H1 _ (R.step o1 t1) fun u H2 y M2 o2 s2 t2 h2=>h2 H2 v u QQ o2 (s1.step t2) s2 fun w H3 z M3 o3 s3 t3 q=>k w H3 z M3 o3 s3 ((t1.trans t2).trans t3) q
theorem A0G {r:V->Hp->VK->Prop}(h:DE K ta ρ M fun x M1=>D1 K r x M1 Q):DE K (tUn r ta) ρ M Q:=fun σ H QQ R k=>
 h σ H _ R fun v H1 x M1 o1 s1 t1 h1=>h1 H1 v QQ o1 s1 fun w H3 z M3 o3 s3 t3 q=>k w H3 z M3 o3 s3 (t1.trans t3) q
theorem jV (h:DE K ta ρ M fun x M1=>DE K tb ρ M1 fun y M2=>D2 K r x y M2 fun z M3=>∃c,z = .d (.bool c)/\if c=true then DE K tc ρ M3 (fun w M4=>D2 K r' y w M4 Q) else Q (.d (.bool false)) M3) :
   DE K (aI r r' ta tb tc) ρ M Q:=fun σ H QQ R k=>
 h σ H _ R fun v H1 x M1 o1 s1 t1 h1=>h1 σ H1 _ (R.step o1 t1) fun u H2 y M2 o2 s2 t2 h2=>h2 H2 v u _ o2 (s1.step t2) s2 fun w H3 z M3 o3 s3 t3 q=>by
   obtain⟨c,rfl,q⟩:=q
   unfold SI DV at s3
   refine⟨c,s3,?_⟩
   cases c with
   | false=>
     rw[if_neg nft] at q ⊢
     exact k _ H3 _ M3 o3 (by unfold SI DV;rfl) ((t1.trans t2).trans t3) q
   | true=>
     rw[if_pos rfl] at q ⊢
     exact q σ H3 _ (R.step o3 ((t1.trans t2).trans t3)) fun w4 H4 z4 M4 o4 s4 t4 h4=>h4 H4 u w4 QQ o4 (s2.step (t3.trans t4)) s4 fun w5 H5 z5 M5 o5 s5 t5 q5=>k w5 H5 z5 M5 o5 s5 ((((t1.trans t2).trans t3).trans t4).trans t5) q5
theorem oT (h:DE K ta ρ M fun x M1=>∃c,x = .d (.bool c)/\QB c M1):DT K (jA ta) ρ M QB:=fun σ H QQ R k=>
 h σ H _ R fun v H1 x M1 o1 s1 t1 h1=>by
   obtain⟨c,rfl,q⟩:=h1
   unfold SI DV at s1
   exact⟨c,s1,k c H1 M1 o1 t1 q⟩
theorem A00 (h:DE K ta ρ M fun x M1=>∃c,x = .d (.bool c)/\QB c M1):DT K (L2.tB ta) ρ M QB:=fun σ H QQ R k=>
 h σ H _ R fun v H1 x M1 o1 s1 t1 h1=>by
   obtain⟨c,rfl,q⟩:=h1
   unfold SI DV at s1
   exact⟨c,s1,k c H1 M1 o1 t1 q⟩
theorem uU (h:DT K tA ρ M fun c M1=>if c=true then DT K tB' ρ M1 QB else QB false M1):DT K (xO tA tB') ρ M QB:=fun σ H QQ R k=>
 h σ H _ R fun c H1 M1 o1 t1 h1=>by
   cases c with
   | false=>rw[if_neg nft] at h1 ⊢;exact k _ H1 M1 o1 t1 h1
   | true=>rw[if_pos rfl] at h1 ⊢;exact h1 σ H1 QQ (R.step o1 t1) fun b H2 M2 o2 t2 q=>k b H2 M2 o2 (t1.trans t2) q
theorem A0H (h:DT K tA ρ M fun c M1=>if c=true then QB true M1 else DT K tB' ρ M1 QB):DT K (tOr tA tB') ρ M QB:=fun σ H QQ R k=>
 h σ H _ R fun c H1 M1 o1 t1 h1=>by
   cases c with
   | true=>rw[if_pos rfl] at h1 ⊢;exact k _ H1 M1 o1 t1 h1
   | false=>rw[if_neg nft] at h1 ⊢;exact h1 σ H1 QQ (R.step o1 t1) fun b H2 M2 o2 t2 q=>k b H2 M2 o2 (t1.trans t2) q
theorem uV (h:DT K tA ρ M fun c M1=>QB (!c) M1):DT K (xQ tA) ρ M QB:=fun σ H QQ R k=>h σ H _ R fun c H1 M1 o1 t1 h1=>k _ H1 M1 o1 t1 h1
theorem uW (h:QB true M):DT K A0B ρ M QB:=fun σ H QQ R k=>k true H M R.own Step.refl h
theorem uX (h:DE K ta ρ M fun x M1=>∃c,x = .d (.bool c)/\if c=true then DE K tb ρ M1 Q else Q (.d (.bool false)) M1):DE K (rT ta tb) ρ M Q:=fun σ H QQ R k=>
 h σ H _ R fun v H1 x M1 o1 s1 t1 h1=>by
   obtain⟨c,rfl,q⟩:=h1
   unfold SI DV at s1
   refine⟨c,s1,?_⟩
   cases c with
   | false=>rw[if_neg nft] at q ⊢;exact k _ H1 _ M1 o1 (by unfold SI DV;rfl) t1 q
   | true=>rw[if_pos rfl] at q ⊢;exact q σ H1 QQ (R.step o1 t1) fun w H2 z M2 o2 s2 t2 q=>k w H2 z M2 o2 s2 (t1.trans t2) q
theorem A0I (h:DE K ta ρ M fun x M1=>∃c,x = .d (.bool c)/\if c=true then Q (.d (.bool true)) M1 else DE K tb ρ M1 Q):DE K (xS ta tb) ρ M Q:=fun σ H QQ R k=>
 h σ H _ R fun v H1 x M1 o1 s1 t1 h1=>by
   obtain⟨c,rfl,q⟩:=h1
   unfold SI DV at s1
   refine⟨c,s1,?_⟩
   cases c with
   | true=>rw[if_pos rfl] at q ⊢;exact k _ H1 _ M1 o1 (by unfold SI DV;rfl) t1 q
   | false=>rw[if_neg nft] at q ⊢;exact q σ H1 QQ (R.step o1 t1) fun w H2 z M2 o2 s2 t2 q=>k w H2 z M2 o2 s2 (t1.trans t2) q
theorem uY (h:DE K ta ρ M fun x M1=>∃c,x = .d (.bool c)/\Q (.d (.bool (!c))) M1):DE K (rV ta) ρ M Q:=fun σ H QQ R k=>
 h σ H _ R fun v H1 x M1 o1 s1 t1 h1=>by
   obtain⟨c,rfl,q⟩:=h1
   unfold SI DV at s1
   exact⟨c,s1,k _ H1 _ M1 o1 (by unfold SI DV;rfl) t1 q⟩
theorem A0J (h:DT K tA ρ M fun c M1=>if c=true then DE K ta ρ M1 Q else DE K tb ρ M1 Q):DE K (tIf tA ta tb) ρ M Q:=fun σ H QQ R k=>
 h σ H _ R fun c H1 M1 o1 t1 h1=>by
   cases c with
   | true=>rw[if_pos rfl] at h1 ⊢;exact h1 σ H1 QQ (R.step o1 t1) fun w H2 z M2 o2 s2 t2 q=>k w H2 z M2 o2 s2 (t1.trans t2) q
   | false=>rw[if_neg nft] at h1 ⊢;exact h1 σ H1 QQ (R.step o1 t1) fun w H2 z M2 o2 s2 t2 q=>k w H2 z M2 o2 s2 (t1.trans t2) q
variable {QL:List DS->Own->Prop}{tl:TA}
theorem uZ (h:QL [] M):DA K u0 ρ M QL:=fun σ H QQ R k=>k [] H [] M R.own rfl Step.refl h
theorem oU (h:DE K ta ρ M fun x M1=>DA K tl ρ M1 fun xs M2=>QL (x::xs) M2):DA K (jF ta tl) ρ M QL:=fun σ H QQ R k=>
 h σ H _ R fun v H1 x M1 o1 s1 t1 h1=>h1 σ H1 _ (R.step o1 t1) fun vs H2 xs M2 o2 s2 t2 q=>k (v::vs) H2 (x::xs) M2 o2 ⟨v,vs,rfl,s1.step t2,s2⟩ (t1.trans t2) q
def T0:List DS->Option (List PyData)
 | []=>some []
 | .d x::r=>match T0 r with
   | some l=>some (x::l)
   | none=>none
 | .loc _::_=>none
 | .ty _::_=>none
 | .tl _ _::_=>none
theorem SIs.data {H:Hp}:∀{xs:List DS}{ds:List PyData}{vs:List V},T0 xs=some ds->SIs K H M xs vs->DVs K H M.W ds vs
 | [],ds,vs,e,h=>by cases e;cases h;exact DVs.nil
 | .d x::r,ds,vs,e,⟨v,q,e2,h1,h2⟩=>by
   cases e3:T0 r with
   | none=>rw[T0,e3] at e;cases e
   | some es=>
     rw[T0,e3] at e;cases e
     subst e2
     exact DVs.cons h1 (SIs.data e3 h2)
 | .loc _::_,ds,vs,e,_=>by cases e
 | .ty _::_,ds,vs,e,_=>by cases e
 | .tl _ _::_,ds,vs,e,_=>by cases e
theorem SIs.length {H:Hp}:∀{xs:List DS}{vs:List V},SIs K H M xs vs->vs.length=xs.length
 | [],vs,h=>by cases h;rfl
 | _::r,vs,⟨v,q,e2,h1,h2⟩=>by subst e2;simp[SIs.length h2]
theorem v0 (h:DA K tl ρ M fun xs M1=>∃ds,T0 xs=some ds/\ds.length<=sizeLine/\Q (.d (.tuple ds)) M1):DE K (z6 tl) ρ M Q:=fun σ H QQ R k=>
 h σ H _ R fun vs H1 xs M1 o1 s1 t1 h1=>by
   obtain⟨ds,e,hz,q⟩:=h1
   have hd:=s1.data e
   refine⟨by rw[hd.length];exact hz,fun p hp=>?_⟩
   have g:Grow K M1.W M1.W H1 (upd H1 p (.tup vs)):=AU _ hp
   refine k _ _ (.d (.tuple ds)) M1 (o1.new hp) ?_ (t1.trans ⟨g⟩) q
   unfold SI DV
   exact⟨p,vs,rfl,.inl ⟨fun w=>w (o1.none hp),.inl AH⟩,hd.grow g⟩
theorem CA (h:DA K tl ρ M fun xs M1=>∃ds,T0 xs=some ds/\ds.length<=sizeLine/\Q (.d (.list ds)) M1):DE K (u4 tl) ρ M Q:=fun σ H QQ R k=>
 h σ H _ R fun vs H1 xs M1 o1 s1 t1 h1=>by
   obtain⟨ds,e,hz,q⟩:=h1
   have hd:=s1.data e
   refine⟨by rw[hd.length];exact hz,fun p hp=>?_⟩
   have g:Grow K M1.W M1.W H1 (upd H1 p (.lst vs)):=AU _ hp
   refine k _ _ (.d (.list ds)) M1 (o1.new hp) ?_ (t1.trans ⟨g⟩) q
   unfold SI DV
   exact⟨p,vs,rfl,.inl ⟨fun w=>w (o1.none hp),.inl AH⟩,hd.grow g⟩
theorem KH (h:DA K tl ρ M fun xs M1=>∃ds,T0 xs=some ds/\ds.length<=sizeLine/\∀p,M1 p=none->Q (.loc p) (M1.put p (.l ds))):DE K (u4 tl) ρ M Q:=fun σ H QQ R k=>
 h σ H _ R fun vs H1 xs M1 o1 s1 t1 h1=>by
   obtain⟨ds,e,hz,q⟩:=h1
   have hd:=s1.data e
   refine⟨by rw[hd.length];exact hz,fun p hp=>?_⟩
   obtain⟨a,b⟩:=dH o1 hp hd
   exact k _ _ (.loc p) _ a rfl (t1.trans b) (q p (o1.none hp))
theorem A0K {r:List V->Hp->VK->Prop}(h:DA K tl ρ M fun xs M1=>DR K r xs M1 Q):DE K (tCB r tl) ρ M Q:=fun σ H QQ R k=>
 h σ H _ R fun vs H1 xs M1 o1 s1 t1 h1=>h1 H1 vs QQ o1 s1 fun w H2 z M2 o2 s2 t2 q=>k w H2 z M2 o2 s2 (t1.trans t2) q
structure FSp where
 pre:List DS->Own->Prop
 post:List DS->Own->DS->Own->Prop
def spD (K:Frg) (n:Nat) (S:FSp):Sp:=fun vs H Q _=>∃xs M,xs.length=n/\OA K H M/\SIs K H M xs vs/\S.pre xs M/\∀x M' v H',S.post xs M x M'->Step K M M' H H'->OA K H' M'->SI K H' M' x v->Q v H'
theorem oV {n:Nat}{S:FSp}:∀vs H Q E,spD K n S vs H Q E->vs.length=n:=fun vs H Q E ⟨xs,M,hl,_,h,_⟩=>by rw[h.length,hl]
theorem oW {n:Nat}{S:FSp}{E:XK}(h:DA K tl ρ M fun xs M1=>xs.length=n/\S.pre xs M1/\∀x M',S.post xs M1 x M'->Q x M'):DE K (cX (spD K n S) [] E tl) ρ M Q:=fun σ H QQ R k=>
 h σ H _ R fun vs H1 xs M1 o1 s1 t1 ⟨h0,h1,h2⟩=>by
   show spD K n S (vs++[]) H1 QQ E
   rw[a9V]
   exact⟨xs,M1,h0,o1,s1,h1,fun x M' v H' p st oa si=>k v H' x M' oa si (t1.trans st) (h2 x M' p)⟩
theorem CO {T:String}{r:V->List V->Hp->VK->Prop}(h:DE K ta ρ M fun x M1=>DTy K T x M1/\DA K tl ρ M1 fun xs M2=>DM K r x xs M2 Q):DE K (tBM K T r ta tl) ρ M Q:=fun σ H QQ R k=>
 h σ H _ R fun v H1 x M1 o1 s1 t1 ⟨h0,h1⟩=>⟨h0 H1 v o1 s1,h1 σ H1 _ (R.step o1 t1) fun vs H2 xs M2 o2 s2 t2 h2=>h2 H2 v vs QQ o2 (s1.step t2) s2 fun w H3 z M3 o3 s3 t3 q=>k w H3 z M3 o3 s3 ((t1.trans t2).trans t3) q⟩
theorem oX {QP:Option Int->Own->Prop}(h:QP none M):DP K cZ ρ M QP:=fun σ H QQ R k=>k _ H M R.own Step.refl h
theorem oY {QP:Option Int->Own->Prop}(h:DE K ta ρ M fun x M1=>∃i,x = .d (.int i)/\QP (some i) M1):DP K (sE ta) ρ M QP:=fun σ H QQ R k=>
 h σ H _ R fun v H1 x M1 o1 s1 t1 h1=>by
   obtain⟨i,rfl,q⟩:=h1
   unfold SI DV at s1
   exact⟨i,s1,k _ H1 M1 o1 t1 q⟩
theorem A0L {r:V->Option Int->Option Int->Hp->VK->Prop}{tl th:TO}(h:DE K ta ρ M fun x M1=>DP K tl ρ M1 fun lo M2=>DP K th ρ M2 fun hi M3=>DSl K r x lo hi M3 Q):DE K (tSl r ta tl th) ρ M Q:=fun σ H QQ R k=>
 h σ H _ R fun v H1 x M1 o1 s1 t1 h1=>h1 σ H1 _ (R.step o1 t1) fun lo H2 M2 o2 t2 h2=>h2 σ H2 _ (R.step o2 (t1.trans t2)) fun hi H3 M3 o3 t3 h3=>h3 H3 v QQ o3 (s1.step (t2.trans t3)) fun w H4 z M4 o4 s4 t4 q=>k w H4 z M4 o4 s4 (((t1.trans t2).trans t3).trans t4) q
variable {D:EndsD}{t u:TS}
theorem dJ (h:D.nx ρ M):DSt K rW ρ M D:=fun σ H E R k1 _ _ _=>k1 ρ M σ H R Step.refl h
theorem jW (h:DE K ta ρ M D.rt):DSt K (xW ta) ρ M D:=fun σ H E R _ k2 _ _=>h σ H E.rt R fun v H' x M' a b c q=>k2 v H' x M' a b c q
theorem dL (h:DE K ta ρ M fun _ M1=>D.nx ρ M1):DSt K (rX ta) ρ M D:=fun σ H E R k1 _ _ _=>h σ H _ R fun v H' x M' a b c q=>k1 ρ M' σ H' (R.step a c) c q
theorem jX {i:Nat}(h:DE K ta ρ M fun x M1=>D.nx (ρ.set i (some x)) M1):DSt K (nX ta (Q9 i)) ρ M D:=fun σ H E R k1 _ _ _=>
 h σ H _ R fun v H' x M' a b c q=>k1 _ M' _ H' ((R.step a c).set b i) c q
theorem dM {i:Nat}(h:DE K ta ρ M fun x M1=>D.nx (ρ.set i (some x)) M1):DSt K (fun D σ H=>ta σ H fun v H'=>D.nx (σ.set i (some v)) H') ρ M D:=fun σ H E R k1 _ _ _=>
 h σ H _ R fun v H' x M' a b c q=>k1 _ M' _ H' ((R.step a c).set b i) c q
theorem jY (h:DSt K t ρ M { D with nx:=fun ρ1 M1=>DSt K u ρ1 M1 D }):DSt K (tL t u) ρ M D:=fun σ H E R k1 k2 k3 k4=>by
 refine h σ H { E with nx:=fun σ' H'=>u E σ' H' } R (fun ρ1 M1 σ1 H1 R1 t1 q=>?_) k2 k3 k4
 exact q σ1 H1 E R1 (fun a b c d e f g=>k1 a b c d e (t1.trans f) g) (fun a b c d e f g q=>k2 a b c d e f (t1.trans g) q) (fun a b c d e f g=>k3 a b c d e (t1.trans f) g) (fun a b c d e f g=>k4 a b c d e (t1.trans f) g)
theorem A0M (h:DT K tA ρ M fun c M1=>if c=true then DSt K t ρ M1 D else DSt K u ρ M1 D):DSt K (xY tA t u) ρ M D:=fun σ H E R k1 k2 k3 k4=>
 h σ H _ R fun c H1 M1 o1 t1 h1=>by
   have go:∀{w:TS},DSt K w ρ M1 D->w E σ H1:=fun q=>q σ H1 E (R.step o1 t1) (fun a b c d e f g=>k1 a b c d e (t1.trans f) g) (fun a b c d e f g q=>k2 a b c d e f (t1.trans g) q) (fun a b c d e f g=>k3 a b c d e (t1.trans f) g) (fun a b c d e f g=>k4 a b c d e (t1.trans f) g)
   cases c with
   | true=>rw[if_pos rfl] at h1 ⊢;exact go h1
   | false=>rw[if_neg nft] at h1 ⊢;exact go h1
theorem oZ {D':EndsD}(h:DSt K t ρ M D) (h1:∀ρ' M',D.nx ρ' M'->D'.nx ρ' M') (h2:∀x M',D.rt x M'->D'.rt x M') (h3:∀ρ' M',D.bk ρ' M'->D'.bk ρ' M') (h4:∀ρ' M',D.ct ρ' M'->D'.ct ρ' M'):DSt K t ρ M D':=
 fun σ H E R k1 k2 k3 k4=>h σ H E R (fun a b c d e f g=>k1 a b c d e f (h1 _ _ g)) (fun a b c d e f g q=>k2 a b c d e f g (h2 _ _ q)) (fun a b c d e f g=>k3 a b c d e f (h3 _ _ g)) (fun a b c d e f g=>k4 a b c d e f (h4 _ _ g))
theorem gK {i:Nat}{a:Addr}{ds:List PyData}(e:ρ[i]?=some (some (.loc a))) (m:M a=some (.l ds)) (h:DSt K t (ρ.set i (some (.d (.list ds)))) (M.del a) D):DSt K t ρ M D:=fun σ H E R k1 k2 k3 k4=>by
 have hs:(M.del a).Sub M:=fun b o q=>by
   unfold Own.del at q
   by_cases hb:b=a
   · rw[if_pos hb] at q;cases q
   · rw[if_neg hb] at q;exact q
 have st:Step K M (M.del a) H H:=⟨BR hs⟩
 obtain⟨v,e1,e2⟩:=R.slot i _ e
 obtain⟨vs,q1,q2⟩:=R.own a _ m
 have R1:Rel K (M.del a) ρ σ H:=R.step (R.own.sub hs) st
 have R2:=R1.set (x:=.d (.list ds)) (v:=v) (by
   unfold SI DV
   refine⟨a,vs,e2,.inl ⟨fun w=>w (by unfold Own.del;rw[if_pos rfl]),.inl q1⟩,q2.grow (BR hs)⟩) i
 have e3:σ.set i (some v)=σ:=by
   apply b2V
   intro j
   rw[List.getElem?_set]
   by_cases hij:i=j
   · subst hij
     rw[if_pos rfl,e1]
     split
     · rfl
     · rename_i hl
       rw[a1Z (by omega)] at e1;cases e1
   · rw[if_neg hij]
 rw[e3] at R2
 exact h σ H E R2 (fun a b c d e f g=>k1 a b c d e (st.trans f) g) (fun a b c d e f g q=>k2 a b c d e f (st.trans g) q) (fun a b c d e f g=>k3 a b c d e (st.trans f) g) (fun a b c d e f g=>k4 a b c d e (st.trans f) g)
end
end DL
namespace DL
open PySem PySem.Spec L2
section
variable {K:Frg}{ρ:List (Option DS)}{M:Own}{Q:DS->Own->Prop}{H:Hp}
theorem C0 {i:Int}{v:V}(h:SI K H M (.d (.int i)) v):v = .int i:=by unfold SI DV at h;exact h
theorem sN {i:Bool}{v:V}(h:SI K H M (.d (.bool i)) v):v = .bl i:=by unfold SI DV at h;exact h
theorem AO {i:Str}{v:V}(h:SI K H M (.d (.str i)) v):v = .str i:=by unfold SI DV at h;exact h
theorem jZ {v:V}(h:SI K H M (.d .none) v):v = .non:=by unfold SI DV at h;exact h
theorem BJ {i:Int}:SI K H M (.d (.int i)) (.int i):=by unfold SI DV;rfl
theorem AJ {i:Bool}:SI K H M (.d (.bool i)) (.bl i):=by unfold SI DV;rfl
theorem BW {i:Str}:SI K H M (.d (.str i)) (.str i):=by unfold SI DV;rfl
theorem A0N {g:Int->Int->Int}{i j:Int}(q:Q (.d (.int (g i j))) M):D2 K (rI0 fun i j=>.int (g i j)) (.d (.int i)) (.d (.int j)) M Q:=fun H v u QQ oa s1 s2 k=>by
 rw[C0 s1,C0 s2];exact⟨i,j,rfl,rfl,k _ H _ M oa BJ Step.refl q⟩
theorem A0O {g:Int->Int->Bool}{i j:Int}(q:Q (.d (.bool (g i j))) M):D2 K (rI0 fun i j=>.bl (g i j)) (.d (.int i)) (.d (.int j)) M Q:=fun H v u QQ oa s1 s2 k=>by
 rw[C0 s1,C0 s2];exact⟨i,j,rfl,rfl,k _ H _ M oa AJ Step.refl q⟩
theorem A0P {C:Int->Int->Prop}{g:Int->Int->Int}{i j:Int}(c:C i j) (q:Q (.d (.int (g i j))) M):D2 K (rI C fun i j=>.int (g i j)) (.d (.int i)) (.d (.int j)) M Q:=fun H v u QQ oa s1 s2 k=>by
 rw[C0 s1,C0 s2];exact⟨i,j,rfl,rfl,c,k _ H _ M oa BJ Step.refl q⟩
theorem A01 {g:Int->Int}{i:Int}(q:Q (.d (.int (g i))) M):D1 K (rU fun i=>.int (g i)) (.d (.int i)) M Q:=fun H v QQ oa s1 k=>by
 rw[C0 s1];exact⟨i,rfl,k _ H _ M oa BJ Step.refl q⟩
theorem p6 {i j:Str}(hz:i.length+j.length<=sizeLine) (q:Q (.d (.str (i++j))) M) :
   D2 K (fun x y H Q=>∃i j,x = .str i/\y = .str j/\i.length+j.length<=sizeLine/\Q (.str (i++j)) H) (.d (.str i)) (.d (.str j)) M Q:=fun H v u QQ oa s1 s2 k=>by
 rw[AO s1,AO s2];exact⟨i,j,rfl,rfl,hz,k _ H _ M oa BW Step.refl q⟩
theorem v6 {i j:Str}(q:Q (.d (.bool (!(a6Q j i 0 j.length 1).isEmpty))) M) :
   D2 K (fun x y H Q=>∃i j,x = .str i/\y = .str j/\Q (.bl (!(a6Q j i 0 j.length 1).isEmpty)) H) (.d (.str i)) (.d (.str j)) M Q:=fun H v u QQ oa s1 s2 k=>by
 rw[AO s1,AO s2];exact⟨i,j,rfl,rfl,k _ H _ M oa AJ Step.refl q⟩
theorem v7 {i j:Str}(q:Q (.d (.bool (decide (i.cps.toList < j.cps.toList)))) M) :
   D2 K (fun x y H Q=>∃i j,x = .str i/\y = .str j/\Q (.bl (decide (i.cps.toList < j.cps.toList))) H) (.d (.str i)) (.d (.str j)) M Q:=fun H v u QQ oa s1 s2 k=>by
 rw[AO s1,AO s2];exact⟨i,j,rfl,rfl,k _ H _ M oa AJ Step.refl q⟩
theorem AQ {neg:Bool}{a b:PyData}(ha:zH a=true) (hb:zH b=true) (q:Q (.d (.bool (if neg then !a0W a b else a0W a b))) M):D2 K (gJ K neg) (.d a) (.d b) M Q:=fun H v u QQ oa s1 s2 k=>
 ⟨M.W,a,b,s1,s2,ha,hb,k _ H _ M oa AJ Step.refl q⟩
theorem Y0 (x:Str) (ys:List Str):inV (.str x) (ys.map V.str)=decide (x∈ys):=by
 unfold inV
 rw[b0Q,List.any_eq_true,decide_eq_true_iff]
 constructor
 · rintro⟨y,hy,e⟩
   obtain⟨z,hz,rfl⟩:=zL.mp hy
   have:z=x:=by simpa [eqV] using e
   subst this;exact hz
 · intro h
   exact⟨.str x,zL.mpr ⟨x,h,rfl⟩,by simp[eqV]⟩
theorem v8 {neg:Bool}{x:Str}{ys:List Str}(q:Q (.d (.bool (if neg then !decide (x∈ys) else decide (x∈ys)))) M):D2 K (rIn K neg) (.d (.str x)) (.d (.list (ys.map .str))) M Q:=fun H v u QQ oa s1 s2 k=>by
 rw[AO s1]
 unfold SI DV at s2
 obtain⟨a,vs,rfl,hl,hd⟩:=s2
 have e:=J7 hd
 subst e
 exact⟨a,_,rfl,.inl hl.sq,rfl,by simp[L0],k _ H (.d (.bool (if neg then !decide (x∈ys) else decide (x∈ys)))) M oa (by rw[Y0];exact AJ) Step.refl q⟩
theorem aR {W:Addr->Prop}{ds:List PyData}{vs:List V}{i:Int}{d:PyData}(h:DVs K H W ds vs) (e:atI ds i=some d):∃v,atI vs i=some v/\DV K H W d v:=by
 unfold atI at e ⊢
 rw[h.length]
 cases hx:ixN ds.length i with
 | none=>rw[hx] at e;cases e
 | some j=>rw[hx] at e;simpa using h.get' (by simpa using e)
theorem v9 {ds:List PyData}{i:Int}{d:PyData}(e:atI ds i=some d) (q:Q (.d d) M):D2 K (oB K) (.d (.list ds)) (.d (.int i)) M Q:=fun H v u QQ oa s1 s2 k=>by
 rw[C0 s2]
 unfold SI DV at s1
 obtain⟨a,vs,rfl,hl,hd⟩:=s1
 obtain⟨w,h1,h2⟩:=aR hd e
 exact⟨a,vs,i,w,rfl,rfl,hl.sq,h1,k _ H (.d d) M oa h2 Step.refl q⟩
theorem vA {ds:List PyData}{i:Int}{d:PyData}(e:atI ds i=some d) (q:Q (.d d) M):D2 K (uA K) (.d (.tuple ds)) (.d (.int i)) M Q:=fun H v u QQ oa s1 s2 k=>by
 rw[C0 s2]
 unfold SI DV at s1
 obtain⟨a,vs,rfl,hl,hd⟩:=s1
 obtain⟨w,h1,h2⟩:=aR hd e
 exact⟨a,vs,i,w,rfl,rfl,hl.sq,h1,k _ H (.d d) M oa h2 Step.refl q⟩
theorem vB {a:Addr}{ds:List PyData}{i:Int}{d:PyData}(m:M a=some (.l ds)) (e:atI ds i=some d) (q:Q (.d d) M):D2 K (oB K) (.loc a) (.d (.int i)) M Q:=fun H v u QQ oa s1 s2 k=>by
 rw[C0 s2]
 unfold SI at s1
 subst s1
 obtain⟨vs,h0,hd⟩:=oa a _ m
 obtain⟨w,h1,h2⟩:=aR hd e
 exact⟨a,vs,i,w,rfl,rfl,SqL.of h0,h1,k _ H (.d d) M oa h2 Step.refl q⟩
theorem vC {z:Str}{i:Int}{c:Nat}(hz:z.length<=sizeLine) (e:atI z.cps.toList i=some c) (q:Q (.d (.str ⟨#[c]⟩)) M):D2 K uB (.d (.str z)) (.d (.int i)) M Q:=fun H v u QQ oa s1 s2 k=>by
 rw[C0 s2,AO s1]
 exact⟨z,i,c,rfl,rfl,hz,e,k _ H _ M oa BW Step.refl q⟩
theorem EV {r r':R2}{x y:DS}(h:D2 K r x y M Q):D2 K (fun x y H Q=>r x y H Q∨r' x y H Q) x y M Q:=fun H v u QQ oa s1 s2 k=>.inl (h H v u QQ oa s1 s2 k)
theorem GN {r r':R2}{x y:DS}(h:D2 K r' x y M Q):D2 K (fun x y H Q=>r x y H Q∨r' x y H Q) x y M Q:=fun H v u QQ oa s1 s2 k=>.inr (h H v u QQ oa s1 s2 k)
theorem vD {as bs:List PyData}(hz:as.length+bs.length<=sizeLine) (q:Q (.d (.list (as++bs))) M):D2 K (fun x y H Q=>∃a b xs ys,x = .ref a/\y = .ref b/\SqL K H a xs/\SqL K H b ys/\xs.length+ys.length<=sizeLine/\∀p,H p=none->Q (.ref p) (upd H p (.lst (xs++ys)))) (.d (.list as)) (.d (.list bs)) M Q:=fun H v u QQ oa s1 s2 k=>by
 unfold SI DV at s1 s2
 obtain⟨a,vs,rfl,hl,hd⟩:=s1
 obtain⟨b,us,rfl,hl2,hd2⟩:=s2
 refine⟨a,b,vs,us,rfl,rfl,hl.sq,hl2.sq,by rw[hd.length,hd2.length];exact hz,fun p hp=>?_⟩
 have g:Grow K M.W M.W H (upd H p (.lst (vs++us))):=AU _ hp
 refine k _ _ (.d (.list (as++bs))) M (oa.new hp) ?_ ⟨g⟩ q
 unfold SI DV
 exact⟨p,_,rfl,.inl ⟨fun w=>w (oa.none hp),.inl AH⟩,(hd.append hd2).grow g⟩
theorem p7 {z:Str}(hz:z.length<=sizeLine) (q:Q (.d (.int z.length)) M):DR K (fun xs H Q=>∃x n,xs=[x]/\jD K x H n/\Q (.int (n:Nat)) H) [.d (.str z)] M Q:=fun H vs QQ oa s k=>by
 obtain⟨v,r,rfl,h1,h2⟩:=s
 cases h2
 rw[AO h1]
 exact⟨_,_,rfl,⟨hz,rfl⟩,k _ H _ M oa BJ Step.refl q⟩
theorem p9 {ds:List PyData}(q:Q (.d (.int ds.length)) M):DR K (fun xs H Q=>∃x n,xs=[x]/\jD K x H n/\Q (.int (n:Nat)) H) [.d (.list ds)] M Q:=fun H vs QQ oa s k=>by
 obtain⟨v,r,rfl,h1,h2⟩:=s
 cases h2
 unfold SI DV at h1
 obtain⟨a,vs,rfl,hl,hd⟩:=h1
 exact⟨_,_,rfl,.inl ⟨vs,hl.sq,rfl⟩,k _ H (.d (.int ds.length)) M oa (by rw[hd.length];exact BJ) Step.refl q⟩
theorem pA {ds:List PyData}(q:Q (.d (.int ds.length)) M):DR K (fun xs H Q=>∃x n,xs=[x]/\jD K x H n/\Q (.int (n:Nat)) H) [.d (.tuple ds)] M Q:=fun H vs QQ oa s k=>by
 obtain⟨v,r,rfl,h1,h2⟩:=s
 cases h2
 unfold SI DV at h1
 obtain⟨a,vs,rfl,hl,hd⟩:=h1
 exact⟨_,_,rfl,.inr ⟨vs,hl.sq,rfl⟩,k _ H (.d (.int ds.length)) M oa (by rw[hd.length];exact BJ) Step.refl q⟩
theorem vE {i:Int}(hz:i.natAbs.log2 < 1920) (q:Q (.d (.str (toString i))) M):DR K (fun xs H Q=>∃i:Int,xs=[.int i]/\i.natAbs.log2 < 1920/\Q (.str (toString i)) H) [.d (.int i)] M Q:=fun H vs QQ oa s k=>by
 obtain⟨v,r,rfl,h1,h2⟩:=s
 cases h2
 rw[C0 h1]
 exact⟨_,rfl,hz,k _ H _ M oa BW Step.refl q⟩
theorem vF {bs:List Bool}(q:Q (.d (.bool (bs.all id))) M):DR K (fun xs H Q=>∃(p:Addr) (bs:List Bool),xs=[.ref p]/\SqL K H p (bs.map V.bl)/\Q (.bl (bs.all id)) H) [.d (.list (bs.map .bool))] M Q:=fun H vs QQ oa s k=>by
 obtain⟨v,r,rfl,h1,h2⟩:=s
 cases h2
 unfold SI DV at h1
 obtain⟨a,vs,rfl,hl,hd⟩:=h1
 rw[UA hd] at hl
 exact⟨a,bs,rfl,hl.sq,k _ H _ M oa AJ Step.refl q⟩
theorem BI {z:Str}:DTy K "str" (.d (.str z)) M:=fun H v _ s=>by rw[AO s];exact rfl
theorem MI {a:Addr}{ds:List PyData}(m:M a=some (.l ds)):DTy K "list" (.loc a) M:=fun H v oa s=>by
 unfold SI at s
 subst s
 obtain⟨vs,h0,hd⟩:=oa a _ m
 exact .inl ⟨rfl,vs,SqL.of h0⟩
theorem KI {y:Str}{ys:List Str}(hz:(ys.map (·.length)).sum+ys.length*y.length<=16777216) (q:Q (.d (.str (a7K y ys))) M):DM K (jS K) (.d (.str y)) [.d (.list (ys.map .str))] M Q:=fun H v vs QQ oa s1 s2 k=>by
 obtain⟨u,r,rfl,h1,h2⟩:=s2
 cases h2
 rw[AO s1]
 unfold SI DV at h1
 obtain⟨a,us,rfl,hl,hd⟩:=h1
 rw[J7 hd] at hl
 exact⟨y,a,ys,rfl,rfl,hl.sq,hz,k _ H _ M oa BW Step.refl q⟩
theorem GU {a:Addr}{ds:List PyData}{d:PyData}(m:M a=some (.l ds)) (hz:ds.length < sizeLine) (q:Q (.d .none) (M.put a (.l (ds++[d])))):DM K VG (.loc a) [.d d] M Q:=fun H v vs QQ oa s1 s2 k=>by
 obtain⟨u,r,rfl,h1,h2⟩:=s2
 cases h2
 unfold SI at s1
 subst s1
 obtain⟨us,h0,hd⟩:=oa a _ m
 obtain⟨x,y⟩:=NU oa m (hd.append (DVs.cons h1 DVs.nil))
 exact⟨a,us,u,rfl,rfl,h0,by rw[hd.length];exact hz,k _ _ (.d .none) _ x (by unfold SI DV;rfl) y q⟩
theorem pB {z:Str}{lo hi:Option Int}(hz:z.length<=sizeLine) (q:Q (.d (.str (a1X z lo hi))) M):DSl K uM (.d (.str z)) lo hi M Q:=fun H v QQ oa s1 k=>by
 rw[AO s1]
 exact⟨z,rfl,hz,k _ H _ M oa BW Step.refl q⟩
def EA (xs:List PyData) (lo hi:Option Int):List PyData:=(xs.drop (HT.sIx xs.length 0 lo)).take (HT.sIx xs.length xs.length hi - HT.sIx xs.length 0 lo)
theorem k0 {ds:List PyData}{lo hi:Option Int}(q:Q (.d (.list (EA ds lo hi))) M):DSl K (uE K) (.d (.list ds)) lo hi M Q:=fun H v QQ oa s1 k=>by
 unfold SI DV at s1
 obtain⟨a,vs,rfl,hl,hd⟩:=s1
 refine⟨a,vs,rfl,hl.sq,fun p hp=>?_⟩
 have g:Grow K M.W M.W H (upd H p (.lst (LO vs lo hi))):=AU _ hp
 have key:DVs K H M.W (EA ds lo hi) (LO vs lo hi):=by
   unfold EA LO
   rw[hd.length]
   exact(hd.drop _).take _
 refine k _ _ (.d (.list (EA ds lo hi))) M (oa.new hp) ?_ ⟨g⟩ q
 unfold SI DV
 exact⟨p,_,rfl,.inl ⟨fun w=>w (oa.none hp),.inl AH⟩,key.grow g⟩
end
end DL
namespace DL
open PySem PySem.Spec L2
structure WD (K:Frg) (J:It) (ds:List PyData) (H1:Hp) (M1:Own):Prop where
 go:∀(i:Nat) H' M',i < ds.length->OA K H' M'->Step K M1 M' H1 H'->J.go i H'
 stop:∀H' M',OA K H' M'->Step K M1 M' H1 H'->J.stop ds.length H'
 yld:∀(i:Nat) H' M' x H2,OA K H' M'->Step K M1 M' H1 H'->i < ds.length->J.yld i H' x H2->OA K H2 M'/\Step K M' M' H' H2/\∃d,ds[i]?=some d/\DV K H2 M'.W d x
def DI (K:Frg) (wi:TI) (ρ:List (Option DS)) (M:Own) (Q:List PyData->Own->Prop):Prop:=
 ∀(σ:St) (H:Hp) (R:It->Hp->Prop),Rel K M ρ σ H->(∀J ds H1 M1,OA K H1 M1->Step K M M1 H H1->WD K J ds H1 M1->Q ds M1->R J H1)->wi σ H R
def DG (K:Frg) (g:TG) (d:PyData) (ρ:List (Option DS)) (M:Own) (P:List (Option DS)->Own->Prop):Prop:=
 ∀(σ:St) (H:Hp) (v:V) (QQ:St->Hp->Prop),Rel K M ρ σ H->DV K H M.W d v->(∀ρ' M' σ' H',Rel K M' ρ' σ' H'->Step K M M' H H'->P ρ' M'->QQ σ' H')->g v σ H QQ
def QM (g:TG) (T:List Nat):Prop:=∀(v:V) (σ:St) (H:Hp) (QQ:St->Hp->Prop),g v σ H (fun σ2 H2=>(∀i,i∉T->σ2[i]?=σ[i]?)->QQ σ2 H2)->g v σ H QQ
section
variable {K:Frg}{ρ:List (Option DS)}{M:Own}{D:EndsD}{tl:TE}{tb:TS}{i:Nat}{QI:List PyData->Own->Prop}{g:TG}{wi:TI}
def AK (z:Str):List PyData:=z.cps.toList.map fun c=>.str ⟨#[c]⟩
def G9 (lo:Int) (n:Nat):List PyData:=(a3Z n).map fun(i:Nat)=>.int (lo+i)
theorem Q0 {ta:TA}(h:DA K ta ρ M fun xs M1=>∃j:Int,xs=[.d (.int j)]/\-(2 ^ 62)<=j/\j < 2 ^ 62/\QI (G9 0 j.toNat) M1):DI K (rY ta) ρ M QI:=fun σ H R Rl k=>
 h σ H _ Rl fun vs H1 xs M1 o1 s1 t1 ⟨j,e,h1,h2,q⟩=>by
   subst e
   obtain⟨v,r,rfl,h3,h4⟩:=s1
   cases h4
   rw[show v = .int j by unfold SI DV at h3;exact h3]
   have hlen:(G9 0 j.toNat).length=j.toNat:=by simp[G9]
   refine⟨j,rfl,h1,h2,k _ (G9 0 j.toNat) H1 M1 o1 t1 ⟨fun i H' M' hi oa st=>?_,fun H' M' oa st=>?_,fun i H' M' x H2 oa st hi y=>?_⟩ q⟩
   · show i < j.toNat;rw[← hlen];exact hi
   · show j.toNat<=(G9 0 j.toNat).length;rw[hlen];exact zR _
   · obtain⟨rfl,rfl⟩:=y
     refine⟨oa,Step.refl,.int (0+i),?_,by unfold DV;rfl⟩
     unfold G9
     rw[zF]
     rw[hlen] at hi
     simp[hi]
theorem pC {d:PyData}{P:List (Option DS)->Own->Prop}(h:P (ρ.set i (some (.d d))) M):DG K (Q9 i) d ρ M P:=fun σ H v QQ R dv k=>k _ M _ H (R.set (x:=.d d) dv i) Step.refl h
theorem B3 (i:Nat):QM (Q9 i) [i]:=fun v σ H QQ h=>h fun j hj=>by
 rw[b7V (by rintro rfl;exact hj (by simp))]
abbrev EndsD.turn (D:EndsD) (P:List (Option DS)->Own->Prop):EndsD:={ nx:=P,ct:=P,bk:=D.nx,rt:=D.rt }
theorem LP (h:DI K wi ρ M fun ds M1=>∃P:Nat->List (Option DS)->Own->Prop,P 0 ρ M1/\(∀k d ρ' M',ds[k]?=some d->P k ρ' M'->DG K g d ρ' M' fun ρ2 M2=>DSt K tb ρ2 M2 (D.turn (P (k+1))))/\∀ρ' M',P ds.length ρ' M'->D.nx ρ' M') :
   DSt K (yB wi g tb) ρ M D:=fun σ H E R k1 k2 k3 k4=>
 h σ H _ R fun J ds H1 M1 o1 t1 wd ⟨P,p0,pt,pe⟩=>by
   refine⟨fun i m σ' H'=>m=ds.length - i/\i<=ds.length/\∃ρ' M',Rel K M' ρ' σ' H'/\Step K M1 M' H1 H'/\P i ρ' M',⟨_,rfl,xT _,ρ,M1,R.step o1 t1,Step.refl,p0⟩,?_⟩
   rintro i m σ' H' ⟨rfl,hi,ρ',M',R',st,p⟩
   by_cases hlt:i < ds.length
   · refine .inr ⟨wd.go i H' M' hlt R'.own st,fun σ2 H2=>∃ρ2 M2,Rel K M2 ρ2 σ2 H2/\Step K M1 M2 H1 H2/\P (i+1) ρ2 M2,fun σ2 H2 ⟨ρ2,M2,a,b,c⟩=>⟨ds.length - (i+1),by omega,rfl,hlt,ρ2,M2,a,b,c⟩,fun x H2 y=>?_⟩
     obtain⟨oa2,st2,d,e1,e2⟩:=wd.yld i H' M' x H2 R'.own st hlt y
     refine pt i d ρ' M' e1 p σ' H2 x _ (R'.step oa2 st2) e2 fun ρ3 M3 σ3 H3 R3 st3 b3=>?_
     have s3:=(st.trans st2).trans st3
     exact b3 σ3 H3 _ R3 (fun r m s hh R4 st4 q=>⟨r,m,R4,s3.trans st4,q⟩) (fun w hh x m a b c q=>k2 w hh x m a b (t1.trans (s3.trans c)) q)
       (fun r m s hh R4 st4 q=>k1 r m s hh R4 (t1.trans (s3.trans st4)) q) (fun r m s hh R4 st4 q=>⟨r,m,R4,s3.trans st4,q⟩)
   · have e:i=ds.length:=by omega
     subst e
     exact .inl ⟨wd.stop H' M' R'.own st,k1 ρ' M' σ' H' R' (t1.trans st) (pe ρ' M' p)⟩
def OH (fr:List (Option Nat)) (ρ:List (Option DS)):List (Option DS):=fr.map fun o=>o.bind fun j=>(ρ[j]?).join
theorem NV {fr:List (Option Nat)}{α:Type}{ρ:List (Option α)}{i:Nat}{x:α}(h:(fr.map fun o=>o.bind fun j=>(ρ[j]?).join)[i]?=some (some x)):∃j,fr[i]?=some (some j)/\ρ[j]?=some (some x):=by
 rw[zF] at h
 cases hf:fr[i]? with
 | none=>rw[hf] at h;cases h
 | some o=>
   rw[hf] at h
   cases o with
   | none=>cases h
   | some j=>
     refine⟨j,rfl,?_⟩
     have e2:((ρ[j]?).join)=some x:=Option.some.inj h
     cases hs:ρ[j]? with
     | none=>rw[hs] at e2;cases e2
     | some q=>rw[hs] at e2;cases q with
       | none=>cases e2
       | some v'=>cases e2;rfl
theorem Rel.capt {fr:List (Option Nat)}{σ:St}{H:Hp}(R:Rel K M ρ σ H):Rel K M (OH fr ρ) (L2.capt fr σ) H:=by
 refine⟨R.own,by unfold OH L2.capt;rw[zX,zX],fun i x e=>?_⟩
 obtain⟨j,e1,e2⟩:=NV e
 obtain⟨v,h1,h2⟩:=R.slot j x e2
 refine⟨v,?_,h2⟩
 unfold L2.capt
 rw[zF,e1]
 simp[h1]
theorem VM {fr:List (Option Nat)}{tt:TT}{te:TE}{T:List Nat}{Q:DS->Own->Prop}(ho:QM g T) (hT:∀i∈T,∀j,fr[i]?≠some (some j))
   (h:DI K wi ρ M fun ds M1=>ds.length < sizeLine/\∀D,M1 D=none->∃P:Nat->List PyData->Own->Prop,P 0 [] (M1.put D (.l []))/\(∀k acc M',P k acc M'->M' D=some (.l acc)/\acc.length<=k) /\
     (∀k d acc M',ds[k]?=some d->P k acc M'->DG K g d (OH fr ρ) M' fun ρ2 M2=>DT K tt ρ2 M2 fun c M3=>if c=true then DE K te ρ2 M3 fun y M4=>∃r,y = .d r/\M4 D=some (.l acc)/\P (k+1) (acc++[r]) (M4.put D (.l (acc++[r]))) else P (k+1) acc M3) /\
     ∀acc M',P ds.length acc M'->Q (.d (.list acc)) (M'.del D)) :
   DE K (U8 fr wi g tt te) ρ M Q:=fun σ H QQ R k=>
 h σ H _ R fun J ds H1 M1 o1 t1 wd ⟨hsz,hq⟩=>by
   intro A hA
   obtain⟨P,p0,pa,pt,pe⟩:=hq A (o1.none hA)
   obtain⟨oA,sA⟩:=dH o1 hA (DVs.nil (K:=K) (H:=H1) (W:=M1.W))
   refine⟨fun i m ys H2=>m=ds.length - i/\i<=ds.length/\H2 A=some (.lst ys)/\∃acc M',OA K H2 M'/\Step K M1 M' H1 H2/\P i acc M',⟨_,rfl,xT _,AH,[],_,oA,sA,p0⟩,?_⟩
   rintro i m ys H2 ⟨rfl,hi,hys,acc,M',oa,st,p⟩
   refine⟨hys,?_⟩
   have hs0:∀{N:Own},(N.del A).Sub N:=fun {N} b o q=>by
     unfold Own.del at q
     by_cases hb:b=A
     · rw[if_pos hb] at q;cases q
     · rw[if_neg hb] at q;exact q
   by_cases hlt:i < ds.length
   · refine .inr ⟨wd.go i H2 M' hlt oa st,fun x H3 y=>?_⟩
     obtain⟨oa3,st3,d,e1,e2⟩:=wd.yld i H2 M' x H3 oa st hlt y
     have Rc:Rel K M' (OH fr ρ) (L2.capt fr σ) H3:=((R.step o1 t1).step oa3 (st.trans st3)).capt
     refine ho _ _ _ _ (pt i d acc M' e1 p (L2.capt fr σ) H3 x _ Rc e2 fun ρ3 M3 σ3 H4 R3 st4 b3 hext=>⟨fun i' v' hv'=>?_,?_⟩)
     · obtain⟨j,f1,f2⟩:=NV hv'
       rw[hext i' fun hm=>hT i' hm j f1]
       exact hv'
     · refine b3 σ3 H4 _ R3 fun c H5 M5 o5 st5 h5=>?_
       have sx:=((st.trans st3).trans st4).trans st5
       cases c with
       | false=>
         rw[if_neg nft] at h5 ⊢
         obtain⟨hm,_⟩:=pa _ _ _ h5
         obtain⟨vs,q1,q2⟩:=o5 A _ hm
         exact⟨vs,ds.length - (i+1),by omega,rfl,hlt,q1,acc,M5,o5,sx,h5⟩
       | true=>
         rw[if_pos rfl] at h5 ⊢
         refine h5 σ3 H5 _ (R3.step o5 st5) fun y H6 z M6 o6 s6 st6 h6=>?_
         obtain⟨r,rfl,hm,p'⟩:=h6
         obtain⟨vs,q1,q2⟩:=o6 A _ hm
         obtain⟨w1,w2⟩:=NU o6 hm (q2.append (DVs.cons s6 DVs.nil))
         have hlen:acc.length<=i:=(pa _ _ _ p).2
         exact⟨vs,q1,by rw[q2.length];omega,ds.length - (i+1),by omega,rfl,hlt,AH,_,_,w1,(sx.trans st6).trans w2,p'⟩
   · have e:i=ds.length:=by omega
     subst e
     refine .inl ⟨wd.stop H2 M' oa st,?_⟩
     obtain⟨hm,_⟩:=pa _ _ _ p
     obtain⟨vs,q1,q2⟩:=oa A _ hm
     have hst:Step K M' (M'.del A) H2 H2:=⟨BR hs0⟩
     refine k _ H2 (.d (.list acc)) (M'.del A) (oa.sub hs0) ?_ ((t1.trans st).trans hst) (pe acc M' p)
     unfold SI DV
     exact⟨A,vs,rfl,.inl ⟨fun w=>w (by unfold Own.del;rw[if_pos rfl]),.inl q1⟩,q2.grow (BR hs0)⟩
theorem AE {fr:List (Option Nat)}{tt:TT}{te:TE}{T:List Nat}{Q:DS->Own->Prop}(ho:QM g T) (hT:∀i∈T,∀j,fr[i]?≠some (some j))
   (h:DI K wi ρ M fun ds M1=>ds.length < sizeLine/\∃(c:PyData->Bool) (f:PyData->PyData),(∀d∈ds,∀M',DG K g d (OH fr ρ) M' fun ρ2 M2=>M2=M'/\DT K tt ρ2 M2 fun b M3=>M3=M'/\b=c d/\(c d=true->DE K te ρ2 M3 fun y M4=>y = .d (f d)/\M4=M'))/\Q (.d (.list ((ds.filter c).map f))) M1) :
   DE K (U8 fr wi g tt te) ρ M Q:=by
 refine VM ho hT fun σ H R Rl k=>h σ H R Rl fun J ds H1 M1 o1 t1 wd q=>k J ds H1 M1 o1 t1 wd ?_
 obtain⟨hsz,c,f,he,q⟩:=q
 refine⟨hsz,fun A hA=>⟨fun k acc M'=>acc=((ds.take k).filter c).map f/\M'=M1.put A (.l acc),⟨by simp,rfl⟩,fun k acc M' ⟨e1,e2⟩=>⟨by rw[e2];exact zU,?_⟩,fun k d acc M' hd ⟨e1,e2⟩=>?_,fun acc M' ⟨e1,e2⟩=>?_⟩⟩
 · rw[e1,zX]
   exact zN (yJ _ _) (by rw[a2Z];omega)
 · have hm:d∈ds:=yN hd
   intro σ H v QQ R dv kk
   refine he d hm M' σ H v QQ R dv fun ρ' M2 σ' H' R' st ⟨eM,q2⟩=>kk ρ' M2 σ' H' R' st fun σ2 H2 QQ2 R2 k2=>?_
   refine q2 σ2 H2 QQ2 R2 fun b H3 M3 o3 st3 ⟨eM3,eb,q3⟩=>k2 b H3 M3 o3 st3 ?_
   have ts:(ds.take (k+1)).filter c=(ds.take k).filter c++(if c d then [d] else []):=take_succ_filter c ds k d hd
   cases hb:c d with
   | false=>
     rw[hb] at eb
     subst eb
     refine L2.oJ ⟨?_,by rw[eM3,e2]⟩
     rw[ts,hb,e1];simp
   | true=>
     rw[hb] at eb
     subst eb
     refine L2.oK ?_
     refine dI (q3 hb) fun y M4 ⟨ey,e4⟩=>⟨f d,ey,by rw[e4,e2];exact zU,?_,by rw[e4,e2,yI]⟩
     rw[ts,hb,e1];simp
 · rw[e2,yG hA,e1,a2K]
   exact q
end
def VN (N:List Str) (xs:List DS):List (Option DS):=xs.map some++a4K (N.length - xs.length) none
section
variable {P:Program}{w:World}{K:Frg}{mg:Str->Option Value}{base:Heap}
theorem SIs.get {M:Own}{H:Hp}:∀{xs:List DS}{vs:List V}{i:Nat}{x:DS},SIs K H M xs vs->xs[i]?=some x->∃v,vs[i]?=some v/\SI K H M x v
 | [],_,_,_,_,e=>by simp at e
 | d::ds,vs,i,x,⟨v,r,e',h1,h2⟩,e=>by
   subst e'
   cases i with
   | zero=>simp at e;subst e;exact⟨v,rfl,h1⟩
   | succ i=>simpa using SIs.get h2 (by simpa using e)
theorem gL {M:Own}{H:Hp}{N:List Str}{xs:List DS}{vs:List V}(oa:OA K H M) (h:SIs K H M xs vs):Rel K M (VN N xs) (L2.IQ N vs) H:=by
 have hl:=h.length
 refine⟨oa,by unfold VN L2.IQ;simp[hl],fun i x e=>?_⟩
 unfold VN at e
 by_cases hi:i < xs.length
 · rw[yQ (by simpa using hi),zF] at e
   cases q:xs[i]? with
   | none=>rw[q] at e;cases e
   | some y=>
     rw[q] at e
     cases e
     obtain⟨v,h1,h2⟩:=h.get q
     refine⟨v,?_,h2⟩
     unfold L2.IQ
     rw[yQ (by rw[zX,hl];exact hi),zF,h1]
     rfl
 · rw[yP (by simpa using hi),List.getElem?_replicate] at e
   split at e <;> cases e
theorem fnD {x qual:Str}{st:Stmt}{f:Addr}{fd:FuncData}{N ps:List Str}{k:Nat}{S:FSp}(F:Fun K x qual st f fd) (Sc:FnScope N ps (AA st))
   (hbody:∀(cdv:Value) (A:Around) (outer:List Env) (s:Shared) (H:Hp) (E:XK),Room k (A.deeper (PyProof.Rows.envOfC qual (AA st) s.heap.objs.size f cdv)) ->
     ∃t,PSs (aL CX0 P w K mg base N qual (AA st) f cdv A outer s H E).nox (D4 st) t/\∀xs M,xs.length=ps.length->S.pre xs M->DSt K t (VN N xs) M { nx:=fun _ M1=>∃M2:Own,M2.Sub M1/\S.post xs M (.d .none) M2,rt:=fun y M1=>∃M2:Own,M2.Sub M1/\S.post xs M y M2 }) :
   FnOk P w K mg base CX0 (k+1) f fd ps (spD K ps.length S):=by
 refine F.ok Sc oV fun cdv A outer s H vs Q E hr h=>?_
 obtain⟨t,ht,hq⟩:=hbody cdv A outer s H E hr
 obtain⟨xs,M,hl,oa,si,pre,post⟩:=h
 refine⟨t,ht,hq xs M hl pre (L2.IQ N vs) H _ (gL oa si) ?_ ?_ (fun _ _ _ _ _ _ z=>z.elim) (fun _ _ _ _ _ _ z=>z.elim)⟩
 · rintro ρ' M1 σ' H' R st ⟨M2,hs,p⟩
   exact post (.d .none) M2 .non H' p (st.trans ⟨BR hs⟩) (R.own.sub hs) (by unfold SI DV;rfl)
 · rintro v H' y M1 o s1 st ⟨M2,hs,p⟩
   exact post y M2 v H' p (st.trans ⟨BR hs⟩) (o.sub hs) (s1.sub hs)
end
end DL
namespace L2
open PySem PySem.Spec PyProof.Rows
section
variable {X:Cx}{tg:Expr}
def Y1 (K:Frg):R2:=fun x y H Q=>(rI0 fun i j=>.int (i+j)) x y H Q∨((∃i j,x = .str i/\y = .str j/\i.length+j.length<=sizeLine/\Q (.str (i++j)) H)∨sL K x y H Q)
theorem pD:OpR X (binaryOp .Add) (Y1 X.K):=tU.or (aJ.or oS)
def gM (K:Frg):R2:=fun x y H Q=>oB K x y H Q∨(uA K x y H Q∨uB x y H Q)
theorem vG:IxR X (gM X.K):=oD.or (uC.or uD)
def pE (K:Frg):V->Option Int->Option Int->Hp->VK->Prop:=fun x lo hi H Q=>uE K x lo hi H Q∨uM x lo hi H Q
theorem vH:SlR X (pE X.K):=oE.or uN
def vI:R2:=fun x y H Q=>(rI0 fun i j=>.bl (decide (i < j))) x y H Q∨∃i j,x = .str i/\y = .str j/\Q (.bl (decide (i.cps.toList < j.cps.toList))) H
theorem aS:OpR X (compareOp .Lt) vI:=yS.or gA
def k6 (K:Frg):R2:=fun x y H Q=>(∃i j,x = .str i/\y = .str j/\Q (.bl (!(a6Q j i 0 j.length 1).isEmpty)) H)∨rIn K false x y H Q
theorem vJ:OpR X (compareOp .In) (k6 X.K):=gB.or gF
def k7 (K:Frg) (tl:TE):TI:=fun σ H R=>tl σ H fun x H1=>(∃a,x = .ref a/\(∃xs,SqL K H1 a xs)/\R (Itl K a) H1)∨(∃a,x = .ref a/\(∃xs,SqT K H1 a xs)/\R (Itt K a) H1)∨∃y,x = .str y/\R (Its y) H1
theorem vK {l:Expr}{tl:TE}(hl:PE X l tl):PI X tg l (k7 X.K tl):=by
 intro pins s σ H R I h
 refine thn (hl pins s σ H _ I h) fun v s1 ⟨x,H1,I1,r1,q1⟩=>?_
 have fp:∀b∈[s1.heap.objs.size],LN X pins H1 b:=fun b hb=>by
   have e:b=s1.heap.objs.size:=by simpa using hb
   subst e
   exact I1.fpOk (zR _) (I1.hok.fresh (zR _))
 rcases q1 with ⟨a,e,⟨xs,hq⟩,q⟩ | ⟨a,e,⟨xs,hq⟩,q⟩ | ⟨y,e,q⟩
 · subst e
   cases r1
   obtain⟨its,rv,p,hz⟩:=I1.list hq
   refine wpAny_pyIter_list p.isList ?_
   exact⟨s1.heap.objs.size,[s1.heap.objs.size],_,_,H1,rfl,I1.kept (t':=s1.toks) fun b o e=>zW _ e,fY a _,⟨_,yZ _ rfl,rfl,rfl⟩,fp,q⟩
 · subst e
   cases r1
   obtain⟨its,rv,p,hz⟩:=I1.tuple hq
   refine wpAny_pyIter_tuple (show s1.heap.IsTuple a its.toArray from p) ?_
   exact⟨s1.heap.objs.size,[s1.heap.objs.size],_,_,H1,rfl,I1.kept (t':=s1.toks) fun b o e=>zW _ e,aG a _,⟨_,yZ _ rfl,rfl,rfl⟩,fp,q⟩
 · subst e
   obtain⟨t,rfl⟩:=r1
   cases ha:y.cps.all (· < 128)
   · exact wpAny_pyIter_wide ha ⟨s1.heap.objs.size,[s1.heap.objs.size],_,_,H1,rfl,I1.kept (t':=s1.toks) fun b o e=>zW _ e,
       XZ s1.heap.objs.size "str_iterator" y t (by decide) (fun A hA=>Walks.strWide hA _ y t) (fun _ _ _ _ _ st h=>wpAny_pyIter_striter_wide st h),⟨_,yZ _ rfl,rfl,rfl⟩,fp,q⟩
   · exact wpAny_pyIter_ascii ha ⟨s1.heap.objs.size,[s1.heap.objs.size],_,_,H1,rfl,I1.kept (t':=s1.toks) fun b o e=>zW _ e,
       XZ s1.heap.objs.size "str_ascii_iterator" y t (by decide) (fun A hA=>Walks.strAscii hA _ y t) (fun _ _ _ _ _ st h=>wpAny_pyIter_striter_ascii st h),⟨_,yZ _ rfl,rfl,rfl⟩,fp,q⟩
end
def k8:NameKind->Bool | .free=>true | _=>false
def k9:NameKind->Bool | .cell=>true | _=>false
def dN:NameKind->Bool | .local=>true | _=>false
def kA (osc:Scope) (ON:List Str) (scope:Scope) (NC:List Str) (fr:List (Option Nat)):Bool:=
 (match scope.kind with | .function=>true | _=>false)&&scope.names.all (fun y=>!k9 y.2) &&
 scope.names.all (fun y=>!dN y.2||(match scope.names.lookup y.1 with | some .local=>true | _=>false)) &&
 scope.names.all (fun y=>!k8 y.2||(match osc.names.lookup y.1 with | some .cell=>true | some .free=>true | _=>false)) &&
 fr.length==NC.length &&
 (a3Z NC.length).all fun i=>match fr[i]?,NC[i]? with
   | some (some j),some x=>ON[j]?==some x&&(match scope.names.lookup x with | some .free=>true | _=>false)&&(match osc.names.lookup x with | some .cell=>true | some .free=>true | _=>false)
   | _,_=>true
theorem CSc.of {X:Cx}{scope:Scope}{NC:List Str}{fr:List (Option Nat)}{osc:Scope}{ON:List Str}(h:kA osc ON scope NC fr=true) (e:X.env.scope=osc) (eN:X.N=ON):CSc X scope NC fr:=by
 subst e eN
 unfold kA at h
 simp only[a0V,a6W,List.mem_range,beq_iff_eq] at h
 obtain⟨⟨⟨⟨⟨h1,h2⟩,h3⟩,h4⟩,h5⟩,h6⟩:=h
 refine⟨?_,fun y hy e=>?_,fun y hy e=>?_,fun y hy e=>?_,h5,fun i j x e1 e2=>?_⟩
 · cases hk:scope.kind <;> rw[hk] at h1 <;> simp at h1 ⊢
 · have:=h2 y hy;rw[e] at this;simp[k9] at this
 · have:=h3 y hy
   rw[e] at this
   simp only[dN,Bool.not_true,Bool.false_or] at this
   cases hl:scope.names.lookup y.1 with
   | none=>rw[hl] at this;cases this
   | some k=>rw[hl] at this;cases k <;> first | rfl | cases this
 · have:=h4 y hy
   rw[e] at this
   simp only[k8,Bool.not_true,Bool.false_or] at this
   cases hl:X.env.scope.names.lookup y.1 with
   | none=>rw[hl] at this;cases this
   | some k=>
     rw[hl] at this
     cases k <;> first
       | exact .inl hl
       | exact .inr hl
       | cases this
 · have hi:i < NC.length:=(yT.mp e1).1
   have:=h6 i hi
   rw[e1,e2] at this
   simp only[a0V,beq_iff_eq] at this
   obtain⟨⟨q1,q2⟩,q3⟩:=this
   refine⟨q1,?_,?_⟩
   · cases hl:scope.names.lookup x with
     | none=>rw[hl] at q2;cases q2
     | some k=>rw[hl] at q2;cases k <;> first | rfl | cases q2
   · cases hl:X.env.scope.names.lookup x with
     | none=>rw[hl] at q3;cases q3
     | some k=>
       rw[hl] at q3
       cases k <;> first
         | exact⟨.inr (.inl hl),fun z=>by have z':X.env.scope.names.lookup x=some .local:=z;rw[hl] at z';cases z'⟩
         | exact⟨.inr (.inr hl),fun z=>by have z':X.env.scope.names.lookup x=some .local:=z;rw[hl] at z';cases z'⟩
         | cases q3
end L2
namespace DL
open PySem PySem.Spec L2
section
variable {K:Frg}{ρ:List (Option DS)}{M:Own}{Q:DS->Own->Prop}{H:Hp}{QI:List PyData->Own->Prop}{tl ta tb:TE}
theorem kB {i j:Int}(q:Q (.d (.int (i+j))) M):D2 K (Y1 K) (.d (.int i)) (.d (.int j)) M Q:=EV (A0N q)
theorem kC {i j:Str}(hz:i.length+j.length<=sizeLine) (q:Q (.d (.str (i++j))) M):D2 K (Y1 K) (.d (.str i)) (.d (.str j)) M Q:=GN (EV (p6 hz q))
theorem kD {a b:List PyData}(hz:a.length+b.length<=sizeLine) (q:Q (.d (.list (a++b))) M):D2 K (Y1 K) (.d (.list a)) (.d (.list b)) M Q:=GN (GN (vD hz q))
theorem E6 {ds:List PyData}{i:Int}{d:PyData}(e:atI ds i=some d) (q:Q (.d d) M):D2 K (gM K) (.d (.list ds)) (.d (.int i)) M Q:=EV (v9 e q)
theorem dO {a:Addr}{ds:List PyData}{i:Int}{d:PyData}(m:M a=some (.l ds)) (e:atI ds i=some d) (q:Q (.d d) M):D2 K (gM K) (.loc a) (.d (.int i)) M Q:=EV (vB m e q)
theorem AB {ds:List PyData}{i:Int}{d:PyData}(e:atI ds i=some d) (q:Q (.d d) M):D2 K (gM K) (.d (.tuple ds)) (.d (.int i)) M Q:=GN (EV (vA e q))
theorem Q1 {z:Str}{i:Int}{c:Nat}(hz:z.length<=sizeLine) (e:atI z.cps.toList i=some c) (q:Q (.d (.str ⟨#[c]⟩)) M):D2 K (gM K) (.d (.str z)) (.d (.int i)) M Q:=GN (GN (vC hz e q))
theorem kE {z:Str}{lo hi:Option Int}(hz:z.length<=sizeLine) (q:Q (.d (.str (a1X z lo hi))) M):DSl K (pE K) (.d (.str z)) lo hi M Q:=fun H v QQ oa s1 k=>.inr (pB hz q H v QQ oa s1 k)
theorem gN {ds:List PyData}{lo hi:Option Int}(q:Q (.d (.list (EA ds lo hi))) M):DSl K (pE K) (.d (.list ds)) lo hi M Q:=fun H v QQ oa s1 k=>.inl (k0 q H v QQ oa s1 k)
theorem pF {i j:Int}(q:Q (.d (.bool (decide (i < j)))) M):D2 K vI (.d (.int i)) (.d (.int j)) M Q:=EV (A0O q)
theorem pG {i j:Str}(q:Q (.d (.bool (decide (i.cps.toList < j.cps.toList)))) M):D2 K vI (.d (.str i)) (.d (.str j)) M Q:=GN (v7 q)
theorem dP {i j:Str}(q:Q (.d (.bool (!(a6Q j i 0 j.length 1).isEmpty))) M):D2 K (k6 K) (.d (.str i)) (.d (.str j)) M Q:=EV (v6 q)
theorem HN {x:Str}{ys:List Str}(q:Q (.d (.bool (decide (x∈ys)))) M):D2 K (k6 K) (.d (.str x)) (.d (.list (ys.map .str))) M Q:=GN (v8 (neg:=false) q)
theorem CC (h:DE K tl ρ M fun x M1=>∃ds,x = .d (.list ds)/\QI ds M1):DI K (k7 K tl) ρ M QI:=fun σ H R Rl k=>
 h σ H _ Rl fun v H1 x M1 o1 s1 t1 ⟨ds,e,q⟩=>by
   subst e
   unfold SI DV at s1
   obtain⟨a,vs,rfl,hl,hd⟩:=s1
   refine .inl ⟨a,rfl,⟨vs,hl.sq⟩,k _ ds H1 M1 o1 t1 ⟨fun i H' M' hi oa st=>?_,fun H' M' oa st=>?_,fun i H' M' x H2 oa st hi y=>?_⟩ q⟩
   · exact⟨vs,vs[i]'(by rw[hd.length];exact hi),(hl.grow st.grow).sq,by simp[hd.length,hi]⟩
   · exact⟨vs,(hl.grow st.grow).sq,by rw[hd.length];exact zR _⟩
   · obtain⟨rfl,y⟩:=y
     obtain⟨d,e1,e2⟩:=hd.get (y vs (hl.grow st.grow).sq)
     exact⟨oa,Step.refl,d,e1,e2.grow st.grow⟩
theorem CI (h:DE K tl ρ M fun x M1=>∃ds,x = .d (.tuple ds)/\QI ds M1):DI K (k7 K tl) ρ M QI:=fun σ H R Rl k=>
 h σ H _ Rl fun v H1 x M1 o1 s1 t1 ⟨ds,e,q⟩=>by
   subst e
   unfold SI DV at s1
   obtain⟨a,vs,rfl,hl,hd⟩:=s1
   refine .inr (.inl ⟨a,rfl,⟨vs,hl.sq⟩,k _ ds H1 M1 o1 t1 ⟨fun i H' M' hi oa st=>?_,fun H' M' oa st=>?_,fun i H' M' x H2 oa st hi y=>?_⟩ q⟩)
   · exact⟨vs,vs[i]'(by rw[hd.length];exact hi),(hl.grow st.grow).sq,by simp[hd.length,hi]⟩
   · exact⟨vs,(hl.grow st.grow).sq,by rw[hd.length];exact zR _⟩
   · obtain⟨rfl,y⟩:=y
     obtain⟨d,e1,e2⟩:=hd.get (y vs (hl.grow st.grow).sq)
     exact⟨oa,Step.refl,d,e1,e2.grow st.grow⟩
theorem VO (h:DE K tl ρ M fun x M1=>∃z,x = .d (.str z)/\QI (AK z) M1):DI K (k7 K tl) ρ M QI:=fun σ H R Rl k=>
 h σ H _ Rl fun v H1 x M1 o1 s1 t1 ⟨z,e,q⟩=>by
   subst e
   have hlen:(AK z).length=z.cps.size:=by simp[AK]
   rw[show v = .str z by unfold SI DV at s1;exact s1]
   refine .inr (.inr ⟨z,rfl,k _ (AK z) H1 M1 o1 t1 ⟨fun i H' M' hi oa st=>?_,fun H' M' oa st=>?_,fun i H' M' x H2 oa st hi y=>?_⟩ q⟩)
   · show i < z.cps.size;rw[← hlen];exact hi
   · exact hlen
   · obtain⟨rfl,c,e1,rfl⟩:=y
     exact⟨oa,Step.refl,.str ⟨#[c]⟩,by unfold AK;rw[zF];simp[e1],by unfold DV;rfl⟩
def tyD:PyData->String
 | .none => "NoneType"
 | .bool _ => "bool"
 | .int _ => "int"
 | .str _ => "str"
 | .list _ => "list"
 | .tuple _ => "tuple"
 | .dict _ => "dict"
end
end DL
namespace L2
open PySem PySem.Spec PyProof.Rows
section
variable {X:Cx}
def kF (K:Frg):List V->Hp->VK->Prop:=fun xs H Q=>∃(x:V) (T:String) (d:PyData) (W:Addr->Prop) (b:Bool),xs=[x,.ty T]/\DV K H W d x/\PySem.W.kitOne K (.type (DL.tyD d)) (.type T)=some b/\Q (.bl b) H
theorem gQ:BQ X (.builtin "isinstance") (kF X.K):=by
 intro pins s σ H xs us Q I r h
 obtain⟨x,T,d,W,b,rfl,dv,e,q⟩:=h
 obtain⟨u,u',rfl,ru,ru'⟩:=sD r
 cases ru'
 have fin:∀tk,EP X pins σ Q (.bool b) { s with toks:=tk }:=fun tk=>⟨.bl b,H,I.tok _,rfl,q⟩
 cases d with
 | none=>unfold DV at dv;subst dv;exact GS I ru (TyOf.non) e fin
 | bool y=>unfold DV at dv;subst dv;exact GS I ru (TyOf.bl _) e fin
 | int i=>unfold DV at dv;subst dv;exact GS I ru (TyOf.int _) e fin
 | str y=>unfold DV at dv;subst dv;exact GS I ru (TyOf.str _) e fin
 | list ds=>
   unfold DV at dv
   obtain⟨a,vs,rfl,hl,_⟩:=dv
   cases ru
   obtain⟨its,rv,⟨o,n,h1,h2,_,_⟩,_⟩:=I.list hl.sq
   exact a2V PySem.W.kitx_list I.kIn ⟨o,h1,h2⟩ e (fun z=>nomatch z) fin
 | tuple ds=>
   unfold DV at dv
   obtain⟨a,vs,rfl,hl,_⟩:=dv
   cases ru
   obtain⟨its,rv,⟨o,h1,h2,_⟩,_⟩:=I.tuple hl.sq
   exact a2V PySem.W.kitx_tuple I.kIn ⟨o,h1,h2⟩ e (fun z=>nomatch z) fin
 | dict kvs=>
   unfold DV at dv
   obtain⟨a,vs,rfl,_,hl,_⟩:=dv
   rcases hl with hl | ⟨o',hl⟩
   · exact GS I ru (TyOf.dK hl) e fin
   · cases ru
     obtain⟨_,_,vs',_,dd⟩:=MH I.hok (.inr ⟨o',hl⟩)
     exact a2V PySem.W.kitx_dict I.kIn dd.typeIs e (fun z=>nomatch z) fin
end
end L2
namespace DL
open PySem PySem.Spec L2
section
variable {K:Frg}{ρ:List (Option DS)}{M:Own}{Q:DS->Own->Prop}{H:Hp}{ta tb:TE}
theorem kG {d:PyData}{T:String}{b:Bool}(e:PySem.W.kitOne K (.type (tyD d)) (.type T)=some b) (q:Q (.d (.bool b)) M):DR K (kF K) [.d d,.ty T] M Q:=fun H vs QQ oa s k=>by
 obtain⟨v,r,rfl,h1,v2,r2,rfl,h2,h3⟩:=s
 cases h3
 rw[show v2 = .ty T from h2]
 exact⟨v,T,d,M.W,b,rfl,h1,e,k _ H _ M oa AJ Step.refl q⟩
theorem Y2 {p:Addr}{ks:List (Key×V)}{kvs:List (PyData×PyData)}(oa:OA K H M) (h:H p=c1Z) (hd:DKV K H M.W kvs ks) :
   OA K (upd H p (.dK ks)) (M.put p (.d kvs))/\Step K M (M.put p (.d kvs)) H (upd H p (.dK ks)):=by
 have hM:=oa.none h
 have g:Grow K M.W (M.put p (.d kvs)).W H (upd H p (.dK ks)):=⟨fun b u e _=>.inl (by rw[AN (AZ e h)];exact e),fun b w=>by
   by_cases hb:b=p
   · subst hb;exact .inr h
   · left;unfold Own.W at w ⊢;rw[yH hb] at w;exact w⟩
 refine⟨fun a o e=>?_,⟨g⟩⟩
 by_cases ha:a=p
 · subst ha;rw[zU] at e;cases e;exact⟨ks,AH,hd.grow g⟩
 · rw[yH ha] at e
   have q:=oa a o e
   cases o <;> (obtain⟨vs,q1,q2⟩:=q;exact⟨vs,by rw[AN ha];exact q1,q2.grow g⟩)
theorem FQ {p:Addr}{ks:List (Key×V)}{kvs:List (PyData×PyData)}{o:MO}(oa:OA K H M) (h:M p=some o) (hd:DKV K H M.W kvs ks) :
   OA K (upd H p (.dK ks)) (M.put p (.d kvs))/\Step K M (M.put p (.d kvs)) H (upd H p (.dK ks)):=by
 have hw:∀b,(M.put p (.d kvs)).W b->M.W b:=fun b w=>by
   unfold Own.W at w ⊢
   by_cases hb:b=p
   · subst hb;rw[h];simp
   · rw[yH hb] at w;exact w
 have g:Grow K M.W (M.put p (.d kvs)).W H (upd H p (.dK ks)):=⟨fun b u e nw=>.inl (by
   rw[AN (by rintro rfl;exact nw (by unfold Own.W;rw[h];simp))];exact e),fun b w=>.inl (hw b w)⟩
 refine⟨fun a o e=>?_,⟨g⟩⟩
 by_cases ha:a=p
 · subst ha;rw[zU] at e;cases e;exact⟨ks,AH,hd.grow g⟩
 · rw[yH ha] at e
   have q:=oa a o e
   cases o <;> (obtain⟨vs,q1,q2⟩:=q;exact⟨vs,by rw[AN ha];exact q1,q2.grow g⟩)
end
structure Has (P:Program) (w:World) (K:Frg) (mg:Str->Option Value) (base:Heap) (x:Str) (k:Nat) (ps:List Str) (S:FSp):Prop where
 ex:∃f fd,FnOk P w K mg base CX0 k f fd ps (spD K ps.length S)/\mg x=some (.ref f)/\b3X K (.ref f)=true/\Binds K fd ps []
theorem kH {X:Cx}{x:Str}{k:Nat}{ps:List Str}{S:FSp}{e:Expr}{es:List Expr}{t:TA}{p pos:Pos}(h:Has X.prog X.w X.K X.mg X.base x k ps S) (hr:Room k X.A) (hg:Gl X x) (ha:PA X (e::es) t)
   (hdb:(x==("__debug__":Str))=false:=by decide) (he:starEach (e::es) X.env=(false,eval e X.env)::starEach es X.env:=by rfl) (hpl:(backTo pos (starEach es X.env)).any (·.1)=false:=by rfl) :
   PE X (.Call (.Name x p) (e::es) [] pos) (cX (spD X.K ps.length S) [] E0 t):=by
 obtain⟨f,fd,F,hm,hk,hb⟩:=h.ex
 exact o8 F hr hg hm hk hb .nil A0A ha hdb he hpl
theorem pH {X:Cx}{x z:Str}{pos:Pos}(hg:Gl X x) (h:∃t,X.mg x=some (.str z t)) (hd:(x==("__debug__":Str))=false:=by decide):PE X (.Name x pos) (tC (.str z)):=by
 obtain⟨t,h⟩:=h
 exact cT hg h ⟨t,rfl⟩ hd
theorem pI {X:Cx}{x:Str}{z:Int}{pos:Pos}(hg:Gl X x) (h:∃t,X.mg x=some (.int z t)) (hd:(x==("__debug__":Str))=false:=by decide):PE X (.Name x pos) (tC (.int z)):=by
 obtain⟨t,h⟩:=h
 exact cT hg h ⟨t,rfl⟩ hd
section
variable {X:Cx}{K:Frg}
theorem kIx (h:X.K=K):IxR X (gM K):=h▸vG
theorem kIn (h:X.K=K):OpR X (compareOp .In) (k6 K):=h▸vJ
theorem kEq (h:X.K=K) (hu:X.A.units+64 < cLine):OpR X (compareOp .Eq) (gJ K false):=h▸uO hu
theorem kNe (h:X.K=K) (hu:X.A.units+64 < cLine):OpR X (compareOp .NotEq) (gJ K true):=h▸uP hu
def kI (K:Frg):List V->Hp->VK->Prop:=fun xs H Q=>∃x n,xs=[x]/\jD K x H n/\Q (.int (n:Nat)) H
def sO (K:Frg):List V->Hp->VK->Prop:=fun xs H Q=>∃(p:Addr) (bs:List Bool),xs=[.ref p]/\SqL K H p (bs.map V.bl)/\Q (.bl (bs.all id)) H
def kJ:List V->Hp->VK->Prop:=fun xs H Q=>∃i:Int,xs=[.int i]/\i.natAbs.log2 < 1920/\Q (.str (toString i)) H
theorem A0Q (h:X.K=K):BQ X (.builtin "len") (kI K):=h▸jE
theorem A0R (h:X.K=K) (hc:X.calm=true):BQ X (.builtin "all") (sO K):=h▸jR hc
theorem A0S (h:X.K=K):BQ X (.builtin "isinstance") (kF K):=h▸gQ
theorem vL (_:X.K=K):BQ X (.type "str") kJ:=ME
theorem UB (h:X.K=K):MtR X "str.join" (jS K):=h▸oR
theorem A0T {tg l:Expr}{tl:TE}(h:X.K=K) (hl:PE X l tl):PI X tg l (k7 K tl):=h▸vK hl
theorem UC {P:Program}{w:World}{mg:Str->Option Value}{base:Heap}{x:Str}{k:Nat}{ps:List Str}{S:FSp}{e:Expr}{es:List Expr}{t:TA}{p pos:Pos}(hK:X.K=K) (hP:X.prog=P) (hw:X.w=w) (hmg:X.mg=mg) (hbs:X.base=base)
   (h:Has P w K mg base x k ps S) (hr:Room k X.A) (hg:Gl X x) (ha:PA X (e::es) t)
   (hdb:(x==("__debug__":Str))=false:=by decide) (he:starEach (e::es) X.env=(false,eval e X.env)::starEach es X.env:=by rfl) (hpl:(backTo pos (starEach es X.env)).any (·.1)=false:=by rfl) :
   PE X (.Call (.Name x p) (e::es) [] pos) (cX (spD K ps.length S) [] E0 t):=by
 subst hK hP hw hmg hbs
 exact kH h hr hg ha hdb he hpl
variable {o e:Expr}{es:List Expr}{to:TE}{t:TA}{name:Str}{apos cpos:Pos}{T id:String}{r:V->List V->Hp->VK->Prop}
theorem kBm (h:X.K=K) (pa:PlainAttrs T) (slot:Slot T name id) (hty:typeOf (.builtin id)=pure (.type "method_descriptor")) (hm:MtR X id r) (ho:PE X o to) (ha:PA X (e::es) t)
   (hbase:attributeBase o name X.env (eval o X.env)=eval o X.env:=by rfl)
   (hfew:((backTo cpos (starEach (e::es) X.env)).all (fun x=>!x.1)&&(backToKw cpos (keywordEach [] X.env)).all (fun x=>x.1.isSome)
     && decide ((e::es).length+([]:List Keyword).length+(if ([]:List Keyword).isEmpty then 0 else 1) < 30))=true:=by rfl)
   (hline:(apos.endLine==cpos.line)=true:=by rfl) (hs:starEach (e::es) X.env=(false,eval e X.env)::starEach es X.env:=by rfl) (hplain:(backTo cpos (starEach es X.env)).any (·.1)=false:=by rfl) :
   PE X (.Call (.Attribute o name apos) (e::es) [] cpos) (tBM K T r to t):=h▸z8 pa slot hty hm ho ha hbase hfew hline hs hplain
end
section
variable {K:Frg}{M:Own}{Q:DS->Own->Prop}
theorem MJ {z:Str}(hz:z.length<=sizeLine) (q:Q (.d (.int z.length)) M):DR K (kI K) [.d (.str z)] M Q:=p7 hz q
theorem VP {ds:List PyData}(q:Q (.d (.int ds.length)) M):DR K (kI K) [.d (.list ds)] M Q:=p9 q
theorem E7 {ds:List PyData}(q:Q (.d (.int ds.length)) M):DR K (kI K) [.d (.tuple ds)] M Q:=pA q
theorem QN {i:Int}(hz:i.natAbs.log2 < 1920) (q:Q (.d (.str (toString i))) M):DR K kJ [.d (.int i)] M Q:=vE hz q
theorem QO {bs:List Bool}(q:Q (.d (.bool (bs.all id))) M):DR K (sO K) [.d (.list (bs.map .bool))] M Q:=vF q
end
end DL
namespace L2
open PySem PySem.Spec PyProof.Rows
section
variable {X:Cx}
theorem kK:∀{its:List Value}{ss:List Str},StrsAre its ss->Vals (ss.map V.str) its
 | _,_,.nil=>.nil
 | _,_,.cons y t r=>.cons ⟨t,rfl⟩ (kK r)
def kL (K:Frg):List V->Hp->VK->Prop:=fun xs H Q=>∃(p:Addr) (ss:List Str),xs=[.ref p]/\SqL K H p (ss.map V.str)/\ss.length < 64/\∀(ss':List Str) (q:Addr),ss'.Perm ss->sortedS ss'=true->H q=none->Q (.ref q) (upd H q (.lst (ss'.map V.str)))
theorem aT:BQ X (.builtin "sorted") (kL X.K):=by
 intro pins s σ H xs us Q I r h
 obtain⟨p,ss,rfl,hp,h64,q⟩:=h
 obtain⟨u,rfl,ru⟩:=D0 r
 cases ru
 obtain⟨its,rv,pl,hz⟩:=I.list hp
 have hS:=PZ rv
 have el:=rv.length
 rw[zX] at el
 refine sorted_strs pl.isList hS (by omega) fun out ss' h1 h2 h3=>?_
 obtain⟨e,he⟩:=sortedAll_at s.heap its out
 have hn:H (s.heap.objs.size+1)=none:=I.hok.fresh (b9K _)
 have hlen:=h2.length_eq
 refine⟨.ref (s.heap.objs.size+1),_,I.laid (t':=s.toks) (o:=.lst (ss'.map V.str)) (fun b o eb=>sortedAll_old eb) (b9K _) ?_,rfl,q ss' _ h2 h3 hn⟩
 refine⟨by rw[zX,hlen];exact zN (xR h64) (by decide),out.toList,e,kK h1,?_⟩
 have he':=he
 simpa [seqObj] using he'
end
end L2
namespace DL
open PySem PySem.Spec L2
section
variable {X:Cx}{K:Frg}
def QR (K:Frg):List V->Hp->VK->Prop:=fun xs H Q=>∃p ys,xs=[.ref p]/\((SqL K H p ys/\∀l,H l=none->Q (.ref l) (upd H l (.tup ys)))∨(SqT K H p ys/\Q (.ref p) H))
theorem vM (h:X.K=K):BQ X (.type "tuple") (QR K):=h▸SZ
end
section
variable {K:Frg}{M:Own}{Q:DS->Own->Prop}{ρ:List (Option DS)}{H:Hp}
theorem KJ {ds:List PyData}(q:Q (.d (.tuple ds)) M):DR K (QR K) [.d (.list ds)] M Q:=fun H vs QQ oa s k=>by
 obtain⟨v,r,rfl,h1,h2⟩:=s
 cases h2
 unfold SI DV at h1
 obtain⟨a,vs,rfl,hl,hd⟩:=h1
 refine⟨a,vs,rfl,.inl ⟨hl.sq,fun p hp=>?_⟩⟩
 have g:Grow K M.W M.W H (upd H p (.tup vs)):=AU _ hp
 refine k _ _ (.d (.tuple ds)) M (oa.new hp) ?_ ⟨g⟩ q
 unfold SI DV
 exact⟨p,vs,rfl,.inl ⟨fun w=>w (oa.none hp),.inl AH⟩,hd.grow g⟩
theorem J8 {W:Addr->Prop}:∀{bs:List Str},DVs K H W (bs.map a0X) (bs.map V.str)
 | []=>DVs.nil
 | b::bs=>DVs.cons (by unfold DV;rfl) J8
theorem pJ {a:Addr}{ds:List PyData}(m:M a=some (.l ds)) (q:Q (.d (.int ds.length)) M):DR K (kI K) [.loc a] M Q:=fun H vs QQ oa s k=>by
 obtain⟨v,r,rfl,h1,h2⟩:=s
 cases h2
 unfold SI at h1
 subst h1
 obtain⟨vs,h0,hd⟩:=oa a _ m
 exact⟨_,_,rfl,.inl ⟨vs,SqL.of h0,rfl⟩,k _ H (.d (.int ds.length)) M oa (by rw[hd.length];exact BJ) Step.refl q⟩
def CT:PyData->Bool | .none=>true | _=>false
theorem vN {d:PyData}(q:Q (.d (.bool (CT d))) M):D2 K (fun x y H Q=>y = .non/\Q (.bl (decide (x = .non))) H) (.d d) (.d .none) M Q:=fun H v u QQ oa s1 s2 k=>by
 refine⟨jZ s2,k _ H (.d (.bool (CT d))) M oa ?_ Step.refl q⟩
 cases d <;> unfold SI DV at s1
 · rw[s1];exact AJ
 · rw[s1];exact AJ
 · rw[s1];exact AJ
 · rw[s1];exact AJ
 · obtain⟨a,_,rfl,_⟩:=s1;exact AJ
 · obtain⟨a,_,rfl,_⟩:=s1;exact AJ
 · obtain⟨a,_,rfl,_⟩:=s1;exact AJ
theorem pK {d:PyData}(q:Q (.d (.bool (!CT d))) M):D2 K (fun x y H Q=>y = .non/\Q (.bl (!decide (x = .non))) H) (.d d) (.d .none) M Q:=fun H v u QQ oa s1 s2 k=>by
 refine⟨jZ s2,k _ H (.d (.bool (!CT d))) M oa ?_ Step.refl q⟩
 cases d <;> unfold SI DV at s1
 · rw[s1];exact AJ
 · rw[s1];exact AJ
 · rw[s1];exact AJ
 · rw[s1];exact AJ
 · obtain⟨a,_,rfl,_⟩:=s1;exact AJ
 · obtain⟨a,_,rfl,_⟩:=s1;exact AJ
 · obtain⟨a,_,rfl,_⟩:=s1;exact AJ
end
def DGs (K:Frg) (g:TGs) (ds:List PyData) (ρ:List (Option DS)) (M:Own) (P:List (Option DS)->Own->Prop):Prop:=
 ∀(σ:St) (H:Hp) (vs:List V) (QQ:St->Hp->Prop),Rel K M ρ σ H->DVs K H M.W ds vs->(∀ρ' M' σ' H',Rel K M' ρ' σ' H'->Step K M M' H H'->P ρ' M'->QQ σ' H')->g vs σ H QQ
section
variable {K:Frg}{M:Own}{ρ:List (Option DS)}{P:List (Option DS)->Own->Prop}
theorem VQ (h:P ρ M):DGs K tN [] ρ M P:=fun σ H vs QQ R hd k=>by
 unfold DVs at hd
 subst hd
 exact⟨rfl,k ρ M σ H R Step.refl h⟩
theorem J9 {i:Nat}{g:TGs}{d:PyData}{ds:List PyData}(h:DGs K g ds (ρ.set i (some (.d d))) M P):DGs K (cV (Q9 i) g) (d::ds) ρ M P:=fun σ H vs QQ R hd k=>by
 unfold DVs at hd
 obtain⟨v,r,rfl,h1,h2⟩:=hd
 exact⟨v,r,rfl,h (σ.set i (some v)) H r QQ (R.set (x:=.d d) h1 i) h2 k⟩
theorem vO {n:Nat}{g:TGs}{ds:List PyData}(hn:ds.length=n) (h:DGs K g ds ρ M P):DG K (nW K n g) (.tuple ds) ρ M P:=fun σ H v QQ R dv k=>by
 unfold DV at dv
 obtain⟨a,vs,rfl,hl,hd⟩:=dv
 exact⟨a,vs,rfl,hl.sq,by rw[hd.length];exact hn,h σ H vs QQ R hd k⟩
def kM (g:TGs) (T:List Nat):Prop:=(∀(vs:List V) (σ:St) (H:Hp) (Q Q':St->Hp->Prop),(∀a b,Q a b->Q' a b)->g vs σ H Q->g vs σ H Q') /\
 (∀(vs:List V) (σ:St) (H:Hp) (QQ:St->Hp->Prop),g vs σ H QQ->g vs σ H fun σ2 H2=>(∀i,i∉T->σ2[i]?=σ[i]?)/\QQ σ2 H2)
theorem HP:kM tN []:=⟨fun vs σ H Q Q' m ⟨e,h⟩=>⟨e,m _ _ h⟩,fun vs σ H QQ ⟨e,h⟩=>⟨e,fun _ _=>rfl,h⟩⟩
theorem B5 {i:Nat}{g:TGs}{T:List Nat}(hg:kM g T):kM (cV (Q9 i) g) (i::T):=by
 refine⟨fun vs σ H Q Q' m ⟨v,r,e,h⟩=>⟨v,r,e,hg.1 r _ H Q Q' m h⟩,fun vs σ H QQ ⟨v,r,e,h⟩=>⟨v,r,e,?_⟩⟩
 refine hg.1 r _ H _ _ (fun σ2 H2 ⟨h1,h2⟩=>⟨fun j hj=>?_,h2⟩) (hg.2 r (σ.set i (some v)) H QQ h)
 rw[h1 j fun z=>hj (yV _ z),b7V (by rintro rfl;exact hj a1J)]
theorem JA {n:Nat}{g:TGs}{T:List Nat}(hg:kM g T):QM (nW K n g) T:=fun v σ H QQ ⟨a,xs,e,hs,hl,h⟩=>
 ⟨a,xs,e,hs,hl,hg.1 xs σ H _ _ (fun σ2 H2 ⟨h1,h2⟩=>h2 h1) (hg.2 xs σ H _ h)⟩
end
end DL
namespace L2
open PySem PySem.Spec PyProof.Rows
section
variable {X:Cx}{pins:List (Addr×Obj)}{σ:St}{H:Hp}{s:Shared}{h':Heap}
theorem Inv.turnedT {ch:List Addr}{T:Addr}{ys:List V}{t':Nat}(I:Inv X pins σ H s) (k:∀b o,b∉ch->s.heap.get? b=some o->h'.get? b=some o) (hn:∀b∈ch,H b=none)
   (hch:∀b∈ch,(b∈X.ex∨X.s₀.heap.objs.size<=b)/\b≠X.env.locals/\(∀x c,X.env.cells.lookup x=some c->c≠b)/\∀p∈X.pn++pins,p.1≠b)
   (hT:s.heap.objs.size<=T) (new:ObjOk X.prog X.w (upd H T (.tup ys)) h' T (.tup ys)):Inv X pins σ (upd H T (.tup ys)) { s with heap:=h',toks:=t' }:=by
 have hTn:H T=none:=I.hok.fresh hT
 have nch:∀b u,H b=some u->b∉ch:=fun b u e z=>by rw[hn b z] at e;cases e
 refine I.step (g':=s.gens) (d':=s.drawn) (ch:=ch) hch (fun b o _ _ hc e _=>k b o hc e) (fun b o _ _ hc e _=>⟨o.slots,k b o hc e⟩) (fun b o hc e n=>?_)
   (fun b o hc e=>⟨o,k b o hc e⟩) (fun b xs e=>?_) (fun b o u e=>?_) (fun b ps e=>⟨#[],?_⟩) (fun m hm=>?_) (fun b u e=>?_) I.bare
 · rw[AN (zC (zP (zM e) hT))];exact n
 · rw[AN (AZ e hTn)];exact e
 · rw[AN (AZ e hTn)];exact e
 · rw[AN (AZ e hTn),e];simp
 · obtain⟨o,es,ep,ho,r⟩:=hm
   exact⟨o,es,ep,k _ o (fun z=>(hch _ z).2.1 rfl) ho,r⟩
 · by_cases hb:b=T
   · subst hb;rw[AH] at e;cases e;exact new
   · rw[AN hb] at e
     refine(I.hok b u e).stay (fun c v hc q=>k c v ?_ q) (fun c q=>by rw[AN (AZ q hTn)];exact q) fun c xs q=>by rw[AN (AZ q hTn)];exact q
     rcases hc with z | z
     · rw[z];exact nch b u e
     · exact nch c _ z
theorem Inv.turnedL {ch:List Addr}{t':Nat}(I:Inv X pins σ H s) (k:∀b o,b∉ch->s.heap.get? b=some o->h'.get? b=some o) (hn:∀b∈ch,H b=none)
   (hch:∀b∈ch,(b∈X.ex∨X.s₀.heap.objs.size<=b)/\b≠X.env.locals/\(∀x c,X.env.cells.lookup x=some c->c≠b)/\∀p∈X.pn++pins,p.1≠b):Inv X pins σ H { s with heap:=h',toks:=t' }:=by
 have nch:∀b u,H b=some u->b∉ch:=fun b u e z=>by rw[hn b z] at e;cases e
 refine I.step (g':=s.gens) (d':=s.drawn) (ch:=ch) hch (fun b o _ _ hc e _=>k b o hc e) (fun b o _ _ hc e _=>⟨o.slots,k b o hc e⟩) (fun b o hc e n=>n)
   (fun b o hc e=>⟨o,k b o hc e⟩) (fun b xs e=>e) (fun b o u e=>e) (fun b ps e=>⟨#[],by rw[e];simp⟩) (fun m hm=>?_) (fun b u e=>?_) I.bare
 · obtain⟨o,es,ep,ho,r⟩:=hm
   exact⟨o,es,ep,k _ o (fun z=>(hch _ z).2.1 rfl) ho,r⟩
 · refine(I.hok b u e).stay (fun c v hc q=>k c v ?_ q) (fun c q=>q) fun c xs q=>q
   rcases hc with z | z
   · rw[z];exact nch b u e
   · exact nch c _ z
theorem DU {a z:Addr}{xs:List V}(I:Inv X pins σ H s) (hf:LN X pins H z) (h:SqL X.K H a xs):a≠z:=by
 rintro rfl
 rcases h with h | ⟨o,its,n,hk,_⟩
 · rcases h with h | ⟨o',h⟩ <;> rw[hf.1] at h <;> cases h
 · have e:=I.ok.mod.kin a o hk
   rcases hf.2.2.2.1 with z | z
   · exact I.ok.noex a o e z
   · exact absurd (zP (zM e) (zN I.ok.bsz z)) (yF _)
end
def Itz (K:Frg) (l1 l2:Addr):It:=
 ⟨fun i H=>∃xs ys,SqL K H l1 xs/\SqL K H l2 ys/\i < xs.length/\i < ys.length,
  fun i H x H'=>∃p a b,H p=none/\x = .ref p/\H'=upd H p (.tup [a,b])/\∀xs ys,SqL K H l1 xs->SqL K H l2 ys->xs[i]?=some a/\ys[i]?=some b,
  fun i H=>∃xs ys,SqL K H l1 xs/\SqL K H l2 ys/\(xs.length<=i∨ys.length<=i)⟩
theorem kN {P:Program}{w:World}{K:Frg}{elts:List Expr}{kk:Nat}{tpos:Pos}(z TI TO i1 i2 l1 l2:Addr) (d1:TI≠z) (d2:TO≠z) (d3:i1≠z) (d4:i2≠z) (d5:TI≠TO) (d6:TI≠i1) (d7:TI≠i2) (d8:TO≠i1) (d9:TO≠i2) (d10:i1≠i2) :
   Turn P w K (.Tuple elts kk tpos) (Itz K l1 l2) [z,TI,TO,i1,i2] z (fun i h=>IsZip h z TI TO .none/\IsPair h TI (.ref i1) (.ref i2)/\(∃a b,IsPair h TO a b)/\h.IsListIter i1 l1 i/\h.IsListIter i2 l2 i) where
 mem:=by simp
 obj:=fun i h ⟨a1,a2,⟨x,y,a3⟩,a4,a5⟩ b hb=>by
   simp only[yX,xX,or_false] at hb
   rcases hb with rfl | rfl | rfl | rfl | rfl
   · exact⟨_,a1,fun v q=>by cases q⟩
   · exact⟨_,a2,fun v q=>by cases q⟩
   · exact⟨_,a3,fun v q=>by cases q⟩
   · obtain⟨o,e,c,d⟩:=a4;exact⟨o,e,fun v q=>by rw[d] at q;cases q⟩
   · obtain⟨o,e,c,d⟩:=a5;exact⟨o,e,fun v q=>by rw[d] at q;cases q⟩
 keep:=fun i h h' ⟨a1,a2,⟨x,y,a3⟩,a4,a5⟩ k=>⟨k z (by simp) _ a1,k TI (by simp) _ a2,⟨x,y,k TO (by simp) _ a3⟩,a4.at fun o e=>k i1 (by simp) o e,a5.at fun o e=>k i2 (by simp) o e⟩
 item:=by
   intro X hP hw hK hc i pins s σ H E I hf ⟨a1,a2,⟨x0,y0,a3⟩,a4,a5⟩ hg
   subst hP hw hK
   obtain⟨xs,ys,hx,hy,lx,ly⟩:=hg
   obtain⟨its,rx,px,_⟩:=I.list hx
   obtain⟨its2,ry,py,_⟩:=I.list hy
   obtain⟨u,hu,ru⟩:=rx.get (zV lx)
   obtain⟨v,hv,rv⟩:=ry.get (zV ly)
   have D:ZipApart z TI TO i1 i2 l1 l2:=⟨d1,d2,d3,d4,d5,d6,d7,d8,d9,d10,DU I (hf z (by simp)) hx,DU I (hf TO (by simp)) hx,DU I (hf i1 (by simp)) hx,DU I (hf i2 (by simp)) hx,
     DU I (hf z (by simp)) hy,DU I (hf TO (by simp)) hy,DU I (hf i1 (by simp)) hy,DU I (hf i2 (by simp)) hy⟩
   refine wpAny_pyNext_zip_item D a1 a2 a3 a4 a5 px.isList py.isList (x:=u) (y:=v) (by simpa using hu) (by simpa using hv) fun h' b1 b2 b3 b4 b5 b6 hk=>?_
   refine⟨_,rfl,wpAny_letOwnedTupleGo_zip (s:={ s with heap:=h' }) b1 fun h2 c1 sb=>?_⟩
   have lt:∀{c o},s.heap.get? c=some o->s.heap.objs.size≠c:=fun e=>a5X (zM e)
   have keep:∀b o,b∉[z,TO,i1,i2]->s.heap.get? b=some o->h2.get? b=some o:=fun b o hb e=>by
     simp only[yX,xX,or_false,not_or] at hb
     exact sb.extBut b o hb.1 (hk b o hb.1 hb.2.1 hb.2.2.1 hb.2.2.2 e)
   have sub:∀b∈[z,TO,i1,i2],b∈[z,TI,TO,i1,i2]:=fun b hb=>by
     simp only[yX,xX,or_false] at hb ⊢
     rcases hb with h | h | h | h <;> simp[h]
   have hTz:s.heap.objs.size≠z:=lt a1
   have I1:Inv X pins σ (upd H s.heap.objs.size (.tup [xs[i],ys[i]])) { s with heap:=h2 }:=I.turnedT (t':=s.toks) (ch:=[z,TO,i1,i2]) keep (fun b hb=>(hf b (sub b hb)).1)
     (fun b hb=>let q:=hf b (sub b hb);⟨q.2.2.2.1,q.2.1,q.2.2.2.2.1,q.2.2.2.2.2⟩) (zR _)
     ⟨by show 2<=sizeLine;decide,[u,v],.cons ru (.cons rv .nil),⟨_,sb.extBut _ _ hTz b5,rfl,_,rfl⟩⟩
   refine⟨.ref s.heap.objs.size,_,I1,rfl,⟨s.heap.objs.size,xs[i],ys[i],I.hok.fresh (zR _),rfl,rfl,fun xs' ys' hx' hy'=>?_⟩,
     ⟨c1,keep _ _ ?_ a2,⟨_,_,sb.extBut _ _ d2 b2⟩,b3.extBut sb.extBut d3,b4.extBut sb.extBut d4⟩,fun b hb=>?_⟩
   · rw[I.list_inj hx' hx,I.list_inj hy' hy]
     exact⟨zV lx,zV ly⟩
   · simp[d1,d5,d6,d7]
   · have hlt:s.heap.objs.size≠b:=by
       simp only[yX,xX,or_false] at hb
       rcases hb with rfl | rfl | rfl | rfl | rfl
       · exact lt a1
       · exact lt a2
       · exact lt a3
       · obtain⟨o,e,_⟩:=a4;exact lt e
       · obtain⟨o,e,_⟩:=a5;exact lt e
     rw[AN (b5Q hlt)]
     exact(hf b hb).1
 done:=by
   intro X hP hw hK hc i pins s σ H E I hf ⟨a1,a2,⟨x0,y0,a3⟩,a4,a5⟩ hg
   subst hP hw hK
   obtain⟨xs,ys,hx,hy,hend⟩:=hg
   obtain⟨its,rx,px,_⟩:=I.list hx
   obtain⟨its2,ry,py,_⟩:=I.list hy
   have D:ZipApart z TI TO i1 i2 l1 l2:=⟨d1,d2,d3,d4,d5,d6,d7,d8,d9,d10,DU I (hf z (by simp)) hx,DU I (hf TO (by simp)) hx,DU I (hf i1 (by simp)) hx,DU I (hf i2 (by simp)) hx,
     DU I (hf z (by simp)) hy,DU I (hf TO (by simp)) hy,DU I (hf i1 (by simp)) hy,DU I (hf i2 (by simp)) hy⟩
   have e1:=rx.length
   have e2:=ry.length
   have sub:∀b∈[z,TO,i1,i2],b∈[z,TI,TO,i1,i2]:=fun b hb=>by
     simp only[yX,xX,or_false] at hb ⊢
     rcases hb with h | h | h | h <;> simp[h]
   refine wpAny_pyNext_zip_end (I.ok.hd hc) D a1 a2 a3 a4 a5 px.isList py.isList (by
     rcases hend with h | h
     · left;simp;omega
     · right;simp;omega) fun h' hk=>⟨rfl,I.turnedL (t':=s.toks) (ch:=[z,TO,i1,i2]) (fun b o hb e=>?_) (fun b hb=>(hf b (sub b hb)).1) fun b hb=>let q:=hf b (sub b hb);⟨q.2.2.2.1,q.2.1,q.2.2.2.2.1,q.2.2.2.2.2⟩⟩
   simp only[yX,xX,or_false,not_or] at hb
   exact hk b o hb.1 hb.2.1 hb.2.2.1 hb.2.2.2 e
 self:=fun _ _ _ _ _ st h=>wpAny_pyIter_zip st.1 h
section
variable {X:Cx}{K:Frg}
def vP (K:Frg) (ta:TA):TI:=fun σ H R=>ta σ H fun vs H1=>∃a b,vs=[.ref a,.ref b]/\(∃xs,SqL K H1 a xs)/\(∃ys,SqL K H1 b ys)/\R (Itz K a b) H1
theorem vQ {a b:Expr}{ta:TA}{p pos:Pos}{elts:List Expr}{kk:Nat}{tpos:Pos}(hg:Gl X "zip") (hm:X.mg "zip"=none) (ha:PA X [a,b] ta) (hs:starEach [a,b] X.env=[(false,eval a X.env),(false,eval b X.env)]:=by rfl) (hs2:starEach [b] X.env=[(false,eval b X.env)]:=by rfl) :
   PI X (.Tuple elts kk tpos) (.Call (.Name "zip" p) [a,b] [] pos) (vP X.K ta):=by
 intro pins s σ H R I h
 refine Call_ (GL I hg hm boot_zip (xH (thn (ha pos pins s σ H _ I h) fun us s1 ⟨vs,H1,I1,r1,q1⟩=>?_) (by rw[hs,hs2]) (by rw[hs2];rfl)))
 obtain⟨l1,l2,e,⟨xs,hx⟩,⟨ys,hy⟩,q⟩:=q1
 subst e
 cases r1 with
 | cons r rr=>
   cases rr with
   | cons r' rr=>
     cases rr
     cases r
     cases r'
     obtain⟨its,rx,px,_⟩:=I1.list hx
     obtain⟨its2,ry,py,_⟩:=I1.list hy
     refine call_zip_2 px.isList py.isList fun h' b1 b2 b3 b4 b5 b6 hk=>?_
     refine wpAny_pyIter_zip (s:={ s1 with heap:=h' }) b1 ?_
     have ne:∀(m n:Nat),m≠n->s1.heap.objs.size+m≠s1.heap.objs.size+n:=fun m n h e=>h (Nat.add_left_cancel e)
     refine⟨s1.heap.objs.size+4,[s1.heap.objs.size+4,s1.heap.objs.size+2,s1.heap.objs.size+3,s1.heap.objs.size,s1.heap.objs.size+1],_,_,H1,rfl,I1.kept (t':=s1.toks) hk,
       kN (s1.heap.objs.size+4) (s1.heap.objs.size+2) (s1.heap.objs.size+3) s1.heap.objs.size (s1.heap.objs.size+1) l1 l2 (ne 2 4 (by decide)) (ne 3 4 (by decide)) (ne 0 4 (by decide)) (ne 1 4 (by decide)) (ne 2 3 (by decide)) (ne 2 0 (by decide)) (ne 2 1 (by decide)) (ne 3 0 (by decide)) (ne 3 1 (by decide)) (ne 0 1 (by decide)),
       ⟨b1,b2,⟨_,_,b3⟩,b4,b5⟩,fun b hb=>?_,q⟩
     have hle:s1.heap.objs.size<=b:=by
       simp only[yX,xX,or_false] at hb
       rcases hb with rfl | rfl | rfl | rfl | rfl
       · exact a2Q _ _
       · exact a2Q _ _
       · exact a2Q _ _
       · exact zR _
       · exact a2Q _ _
     exact I1.fpOk hle (I1.hok.fresh hle)
theorem A02 {a b:Expr}{ta:TA}{p pos:Pos}{elts:List Expr}{kk:Nat}{tpos:Pos}(h:X.K=K) (hg:Gl X "zip") (hm:X.mg "zip"=none) (ha:PA X [a,b] ta) (hs:starEach [a,b] X.env=[(false,eval a X.env),(false,eval b X.env)]:=by rfl) (hs2:starEach [b] X.env=[(false,eval b X.env)]:=by rfl) :
   PI X (.Tuple elts kk tpos) (.Call (.Name "zip" p) [a,b] [] pos) (vP K ta):=h▸vQ hg hm ha hs hs2
end
end L2
namespace DL
open PySem PySem.Spec L2
section
variable {K:Frg}{M:Own}{ρ:List (Option DS)}{QI:List PyData->Own->Prop}
def F6 (as bs:List PyData):List PyData:=(as.zip bs).map fun p=>.tuple [p.1,p.2]
theorem vR {ta:TA}(h:DA K ta ρ M fun xs M1=>∃as bs,xs=[.d (.list as),.d (.list bs)]/\QI (F6 as bs) M1):DI K (vP K ta) ρ M QI:=fun σ H R Rl k=>
 h σ H _ Rl fun vs H1 xs M1 o1 s1 t1 ⟨as,bs,e,q⟩=>by
   subst e
   obtain⟨v,r,rfl,h1,v2,r2,rfl,h2,h3⟩:=s1
   cases h3
   unfold SI DV at h1 h2
   obtain⟨a,va,rfl,hl,hd⟩:=h1
   obtain⟨b,vb,rfl,hl2,hd2⟩:=h2
   have hlen:(F6 as bs).length=min as.length bs.length:=by unfold F6;rw[zX,b2Z]
   refine⟨a,b,rfl,⟨va,hl.sq⟩,⟨vb,hl2.sq⟩,k _ (F6 as bs) H1 M1 o1 t1 ⟨fun i H' M' hi oa st=>?_,fun H' M' oa st=>?_,fun i H' M' x H2 oa st hi y=>?_⟩ q⟩
   · rw[hlen] at hi
     exact⟨va,vb,(hl.grow st.grow).sq,(hl2.grow st.grow).sq,by rw[hd.length];omega,by rw[hd2.length];omega⟩
   · refine⟨va,vb,(hl.grow st.grow).sq,(hl2.grow st.grow).sq,?_⟩
     rw[hlen,hd.length,hd2.length];omega
   · obtain⟨p,xa,xb,hp,rfl,rfl,hy⟩:=y
     obtain⟨e1,e2⟩:=hy va vb (hl.grow st.grow).sq (hl2.grow st.grow).sq
     obtain⟨da,f1,f2⟩:=hd.get e1
     obtain⟨db,g1,g2⟩:=hd2.get e2
     have gg:Grow K M'.W M'.W H' (upd H' p (.tup [xa,xb])):=AU _ hp
     refine⟨oa.new hp,⟨gg⟩,.tuple [da,db],?_,?_⟩
     · unfold F6
       rw[zF]
       have:(as.zip bs)[i]?=some (da,db):=by rw[a4W];exact⟨f1,g1⟩
       rw[this];rfl
     · unfold DV
       exact⟨p,_,rfl,.inl ⟨fun w=>w (oa.none hp),.inl AH⟩,DVs.cons ((f2.grow st.grow).grow gg) (DVs.cons ((g2.grow st.grow).grow gg) DVs.nil)⟩
end
end DL
namespace HT
open PySem PySem.Spec PyProof.Rows
section
variable {prog:Program}{w:World}{A:Around}{E:Value->Shared->Prop}{s:Shared}
theorem getItem_tuple_whole {t sl:Addr}{items:Array Value}{vl vu:Value}{lo hi:Option Int}{Q:Value->Shared->Prop}(ht:IsTup s.heap t items) (hs:s.heap.IsSliceOf sl vl vu .none) (pl:IsPart vl lo) (pu:IsPart vu hi)
   (hw:sIx items.size 0 lo=0/\sIx items.size items.size hi=items.size) (h:Q (.ref t) s):wpAny (model prog w) A (getItem (.ref t) (.ref sl)) Q E s:=by
 obtain⟨os,hos,hcs,hds⟩:=id hs
 have hTs:s.TypeIs (.ref sl) "slice" := ⟨os,hos,hcs⟩
 unfold getItem
 try with_reducible refine wpAny_holding ?_
 first | refine zZ (zY ?_) | skip
 refine zZ (wpAny_sequenceKey ht.typeIs (by decide) ?_)
 refine zZ (wpAny_callSpecial?_slot (name:=a0Q "__getitem__") ht.typeIs a8K
   (wpAny_call_entry a8K ht.typeIs entry_tuple_getitem ?_ (args_tuple_getitem _ _)))
 show wpAny _ _ (Builtin.Tuple.tupleItemsOf (.ref t) >>= _) _ _ s
 refine zZ (tupleItemsOf_ ht ?_)
 refine zZ (wpAny_typeOf hTs ?_)
 rw[if_pos (by decide)]
 refine zZ (GT hs pl pu ?_)
 have hno:((((sIx items.size 0 lo:Nat):Int)==0&&(1:Int)==1&&(sIx items.size items.size hi - sIx items.size 0 lo)==items.size)=true):=by
   rw[hw.1,hw.2];simp
 show wpAny _ _ (if (((sIx items.size 0 lo:Nat):Int)==0&&(1:Int)==1&&(sIx items.size items.size hi - sIx items.size 0 lo)==items.size)=true then _ else _) _ _ s
 rw[if_pos hno]
 refine zZ (m:=Builtin.Tuple.tupleIsExact _) (zZ (wpAny_typeOf ht.typeIs (zY ?_)))
 show wpAny _ _ (if true=true then _ else _) _ _ s
 rw[if_pos rfl]
 first
   | exact zZ (wpAny_rule (zZ (zY ⟨_,rfl,zY h⟩)))
   | exact zZ (wpAny_rule (zY ⟨_,rfl,zY h⟩))
   | exact zZ (wpAny_rule (zZ (zY (zY ⟨_,rfl,zY h⟩))))
end
end HT
namespace L2
open PySem PySem.Spec PyProof.Rows
section
variable {X:Cx}
def sP (K:Frg):V->Option Int->Option Int->Hp->VK->Prop:=fun x lo hi H Q=>∃a xs,x = .ref a/\SqT K H a xs/\(LO xs lo hi=xs->Q (.ref a) H)/\∀p,H p=none->Q (.ref p) (upd H p (.tup (LO xs lo hi)))
theorem pL:SlR X (sP X.K):=by
 intro pins s σ H x v vl vu lo hi sl Q I rx hs pl pu h
 obtain⟨a,xs,rfl,hx,q1,q2⟩:=h
 cases rx
 obtain⟨its,r,ht,hz⟩:=I.tuple hx
 have hlen:its.toArray.size=xs.length:=by rw[zJ];exact r.length.symm
 by_cases hw:HT.sIx xs.length 0 lo=0/\HT.sIx xs.length xs.length hi=xs.length
 · refine⟨"tuple", _,PyProof.Rows.slot_tuple_getitem.lookup,ht.typeIs,?_⟩
   refine HT.getItem_tuple_whole ht hs pl pu (by rw[hlen];exact hw) ⟨.ref a,H,I,rfl,q1 ?_⟩
   unfold LO
   rw[hw.1,hw.2];simp
 · exact u9 pins s σ H (.ref a) (.ref a) vl vu lo hi sl Q I rfl hs pl pu ⟨a,xs,rfl,hx,hw,q2⟩
def kP (K:Frg):R2:=fun x y H Q=>∃a b xs ys,x = .ref a/\y = .ref b/\SqT K H a xs/\SqT K H b ys/\xs.length+ys.length<=sizeLine /\
 (xs=[]->Q (.ref b) H)/\(ys=[]->Q (.ref a) H)/\(∀p,H p=none->Q (.ref p) (upd H p (.tup (xs++ys))))
theorem kQ:OpR X (binaryOp .Add) (kP X.K):=by
 intro pins s σ H x y v u Q I rx ry h
 obtain⟨t,b,xs,ys,rfl,rfl,hx,hy,hz,q0,q1,q2⟩:=h
 cases rx
 cases ry
 obtain⟨its,r,ht,_⟩:=I.tuple hx
 obtain⟨its2,r2,hb,_⟩:=I.tuple hy
 have e1:=r.length
 have e2:=r2.length
 obtain⟨⟨cls,dd,data,sl⟩,ho,hc,n,hd⟩:=id ht
 obtain⟨⟨cls2,dd2,data2,sl2⟩,ho2,hc2,n2,hd2⟩:=id hb
 dsimp only at hc hd hc2 hd2
 subst hc hd hc2 hd2
 have e:its.toArray++its2.toArray=(its++its2).toArray:=by simp
 by_cases hv:its=[]
 · have hx0:xs=[]:=by cases r with | nil=>rfl | cons _ _=>cases hv
   exact concat_meets ⟨_,ho,rfl⟩ ⟨_,ho2,rfl⟩ noFill_tuple_add seq_tuple_add c2Q c1Q (c0Q _ _)
     (tuple_addW0 t b its.toArray its2.toArray n n2 dd dd2 sl sl2 (by simp[hv])) ⟨ho,ho2,⟨.ref b,H,I,rfl,q0 hx0⟩⟩
 · by_cases hw:its2=[]
   · have hy0:ys=[]:=by cases r2 with | nil=>rfl | cons _ _=>cases hw
     exact concat_meets ⟨_,ho,rfl⟩ ⟨_,ho2,rfl⟩ noFill_tuple_add seq_tuple_add c2Q c1Q (c0Q _ _)
       (tuple_addW1 t b its.toArray its2.toArray n n2 dd dd2 sl sl2 (by simpa using hv) (by simp[hw])) ⟨ho,ho2,⟨.ref t,H,I,rfl,q1 hy0⟩⟩
   · refine concat_meets ⟨_,ho,rfl⟩ ⟨_,ho2,rfl⟩ noFill_tuple_add seq_tuple_add c2Q c1Q (c0Q _ _)
       (tuple_addW2 t b its.toArray its2.toArray n n2 dd dd2 sl sl2 (by simpa using hv) (by simpa using hw) (by rw[zJ,zJ];omega)) ⟨ho,ho2,?_⟩
     rw[e]
     refine⟨.ref s.heap.objs.size,_,I.laid (t':=s.toks) (o:=.tup (xs++ys)) (fun b ob q=>zW _ q) (zR _) ?_,rfl,q2 _ I.fresh⟩
     exact⟨by rw[yY];exact hz,its++its2,r.append r2,IsTup.new _ _⟩
end
end L2
namespace DL
open PySem PySem.Spec L2
section
variable {X:Cx}{K:Frg}
def Y3 (K:Frg):R2:=fun x y H Q=>Y1 K x y H Q∨kP K x y H Q
theorem A0U (h:X.K=K):OpR X (binaryOp .Add) (Y3 K):=h▸pD.or kQ
def pM (K:Frg):V->Option Int->Option Int->Hp->VK->Prop:=fun x lo hi H Q=>pE K x lo hi H Q∨sP K x lo hi H Q
theorem A0V (h:X.K=K):SlR X (pM K):=h▸vH.or pL
end
section
variable {K:Frg}{M:Own}{Q:DS->Own->Prop}
theorem kR {i j:Int}(q:Q (.d (.int (i+j))) M):D2 K (Y3 K) (.d (.int i)) (.d (.int j)) M Q:=EV (kB q)
theorem BC {i j:Str}(hz:i.length+j.length<=sizeLine) (q:Q (.d (.str (i++j))) M):D2 K (Y3 K) (.d (.str i)) (.d (.str j)) M Q:=EV (kC hz q)
theorem JB {a b:List PyData}(hz:a.length+b.length<=sizeLine) (q:Q (.d (.list (a++b))) M):D2 K (Y3 K) (.d (.list a)) (.d (.list b)) M Q:=EV (kD hz q)
theorem Y4 {as bs:List PyData}(hz:as.length+bs.length<=sizeLine) (q:Q (.d (.tuple (as++bs))) M):D2 K (Y3 K) (.d (.tuple as)) (.d (.tuple bs)) M Q:=GN fun H v u QQ oa s1 s2 k=>by
 have s1':=s1
 have s2':=s2
 unfold SI DV at s1 s2
 obtain⟨a,vs,rfl,hl,hd⟩:=s1
 obtain⟨b,us,rfl,hl2,hd2⟩:=s2
 refine⟨a,b,vs,us,rfl,rfl,hl.sq,hl2.sq,by rw[hd.length,hd2.length];exact hz,fun e=>?_,fun e=>?_,fun p hp=>?_⟩
 · have:as=[]:=by have:=hd.length;rw[e] at this;exact List.length_eq_zero_iff.mp this.symm
   subst this
   exact k _ H (.d (.tuple ([]++bs))) M oa s2' Step.refl q
 · have:bs=[]:=by have:=hd2.length;rw[e] at this;exact List.length_eq_zero_iff.mp this.symm
   subst this
   rw[a9V] at q
   exact k _ H (.d (.tuple as)) M oa s1' Step.refl q
 · have g:Grow K M.W M.W H (upd H p (.tup (vs++us))):=AU _ hp
   refine k _ _ (.d (.tuple (as++bs))) M (oa.new hp) ?_ ⟨g⟩ q
   unfold SI DV
   exact⟨p,_,rfl,.inl ⟨fun w=>w (oa.none hp),.inl AH⟩,(hd.append hd2).grow g⟩
theorem GV {z:Str}{lo hi:Option Int}(hz:z.length<=sizeLine) (q:Q (.d (.str (a1X z lo hi))) M):DSl K (pM K) (.d (.str z)) lo hi M Q:=fun H v QQ oa s1 k=>.inl (kE hz q H v QQ oa s1 k)
theorem CV {ds:List PyData}{lo hi:Option Int}(q:Q (.d (.list (EA ds lo hi))) M):DSl K (pM K) (.d (.list ds)) lo hi M Q:=fun H v QQ oa s1 k=>.inl (gN q H v QQ oa s1 k)
theorem JC {ds:List PyData}{lo hi:Option Int}(q:Q (.d (.tuple (EA ds lo hi))) M):DSl K (pM K) (.d (.tuple ds)) lo hi M Q:=fun H v QQ oa s1 k=>.inr (by
 have s1':=s1
 unfold SI DV at s1
 obtain⟨a,vs,rfl,hl,hd⟩:=s1
 have key:DVs K H M.W (EA ds lo hi) (LO vs lo hi):=by
   unfold EA LO
   rw[hd.length]
   exact(hd.drop _).take _
 refine⟨a,vs,rfl,hl.sq,fun e=>?_,fun p hp=>?_⟩
 · refine k _ H (.d (.tuple (EA ds lo hi))) M oa ?_ Step.refl q
   unfold SI DV
   exact⟨a,vs,rfl,hl,by rw[← e];rw[e] at key;rw[e];exact key⟩
 · have g:Grow K M.W M.W H (upd H p (.tup (LO vs lo hi))):=AU _ hp
   refine k _ _ (.d (.tuple (EA ds lo hi))) M (oa.new hp) ?_ ⟨g⟩ q
   unfold SI DV
   exact⟨p,_,rfl,.inl ⟨fun w=>w (oa.none hp),.inl AH⟩,key.grow g⟩)
end
theorem MK {X:Cx}{K:Frg}{pos:Pos}{es:List Expr}{k:Nat}{t:TGs}{n:Nat}(hK:X.K=K) (hc:X.calm=true) (h:PGs X es t)
   (hn:(assignEach es X.env).length=n:=by rfl) (hst:(assignEach es X.env).findIdx? (·.1)=none:=by rfl):PG X (.Tuple es k pos) (nW K n t):=hK▸j6 hc h hn hst
end DL
namespace DL
open PySem PySem.Spec L2
def fn1 (pre:PyData->Prop) (f:PyData->PyData):FSp:=⟨fun xs _=>∃d,xs=[.d d]/\pre d,fun xs M y M'=>∀d,xs=[.d d]->y = .d (f d)/\M'=M⟩
theorem AF {pre:PyData->Prop}{f:PyData->PyData}{d:PyData}{M:Own}{Q:DS->Own->Prop}(p:pre d) (q:Q (.d (f d)) M):[DS.d d].length=1/\(fn1 pre f).pre [.d d] M/\∀x M',(fn1 pre f).post [.d d] M x M'->Q x M':=
 ⟨rfl,⟨d,rfl,p⟩,fun x M' h=>by obtain⟨rfl,rfl⟩:=h d rfl;exact q⟩
def CW (c:Nat):Bool:=decide (97<=c)&&decide (c<=122)
def FR:PyData->Bool | .int _=>true | _=>false
def BK:PyData->Bool | .str z=>decide (1<=z.cps.size)&&decide (z.cps.size<=8)&&z.cps.toList.all CW | _=>false
def DY:PyData->Bool | .int i=>decide (0<=i)&&decide (i<=999) | _=>false
def okS (z:Str):Prop:=z.cps.size<=5000/\∀c∈z.cps.toList,c < 128
def okD:PyData->Prop | .str z=>okS z | _=>True
def FS:FSp:=fn1 (fun _=>True) fun d=>.bool (FR d)
def GW:FSp:=fn1 okD fun d=>.bool (BK d)
def HQ:FSp:=fn1 (fun _=>True) fun d=>.bool (DY d)
def ML (d:PyData) (lo hi:Int):Bool:=match d with | .int i=>decide (lo<=i)&&decide (i<=hi) | _=>false
def EB:FSp:=⟨fun xs _=>∃(d:PyData) (lo hi:Int),xs=[.d d,.d (.int lo),.d (.int hi)],fun xs M y M'=>∀(d:PyData) (lo hi:Int),xs=[.d d,.d (.int lo),.d (.int hi)]->y = .d (.bool (ML d lo hi))/\M'=M⟩
theorem Y5 {d:PyData}{lo hi:Int}{M:Own}{Q:DS->Own->Prop}(q:Q (.d (.bool (ML d lo hi))) M):[DS.d d,.d (.int lo),.d (.int hi)].length=3/\EB.pre [.d d,.d (.int lo),.d (.int hi)] M/\∀x M',EB.post [.d d,.d (.int lo),.d (.int hi)] M x M'->Q x M':=
 ⟨rfl,⟨d,lo,hi,rfl⟩,fun x M' h=>by obtain⟨rfl,rfl⟩:=h d lo hi rfl;exact q⟩
theorem VR (d:PyData):ML d 0 999=DY d:=by cases d <;> rfl
theorem aU:∀c:Nat,c < 128->(!(a6Q (a0Q "abcdefghijklmnopqrstuvwxyz") ⟨#[c]⟩ 0 (a0Q "abcdefghijklmnopqrstuvwxyz").length 1).isEmpty)=CW c:=by decide +kernel
def pN:PyData->Bool | .str z=>z.cps.toList.all CW | _=>false
theorem gR (z:Str):((AK z).filter fun _=>true).map (fun d=>PyData.bool (pN d))=(z.cps.toList.map CW).map .bool:=by
 rw[List.filter_eq_self.mpr (by simp)]
 unfold AK
 rw[zD,zD]
 apply yM
 intro c hc
 simp[pN]
theorem aV (l:List Nat) (f:Nat->Bool):(l.map f).all id=l.all f:=by simp
section
variable {K:Frg}{ρ:List (Option DS)}{M:Own}{D:EndsD}{t u:TS}
theorem NW (P:List (Option DS)->Own->Prop) (h:DSt K t ρ M { D with nx:=P }) (h2:∀ρ1 M1,P ρ1 M1->DSt K u ρ1 M1 D):DSt K (tL t u) ρ M D:=
 jY (oZ h (fun ρ' M' p=>h2 ρ' M' p) (fun _ _ q=>q) (fun _ _ q=>q) (fun _ _ q=>q))
end
def AG (z:Str):Prop:=1<=z.cps.size/\z.cps.size<=8/\∀c∈z.cps.toList,CW c=true
theorem p64:(2:Int) ^ 64=18446744073709551616:=by decide
theorem kS {i j:Int}(h1 : -1000000000000000 < j) (h2:j < 1000000000000000):CMul i j:=by
 refine .inr ⟨?_,?_⟩ <;> rw[p64] <;> omega
theorem A03 {M:Own}{a:Addr}{ds:List PyData}{k:Int}{j:Nat}{F:Addr->List PyData->Nat->Prop}(m:M a=some (.l ds)) (e:ixN ds.length k=some j) (q:F a ds j) :
   ∃a' ds' k' j',DS.loc a = .loc a'/\DS.d (.int k) = .d (.int k')/\M a'=some (.l ds')/\ixN ds'.length k'=some j'/\F a' ds' j':=⟨a,ds,k,j,rfl,rfl,m,e,q⟩
theorem A04 {xs:List DS}{ds:List PyData}{Q:List PyData->Prop}(e:T0 xs=some ds) (h:ds.length<=sizeLine) (q:Q ds):∃ds,T0 xs=some ds/\ds.length<=sizeLine/\Q ds:=⟨ds,e,h,q⟩
theorem C7 {x y:Str}(h:x.cps.toList=y.cps.toList):x=y:=by
 obtain⟨⟨a⟩⟩:=x
 obtain⟨⟨b⟩⟩:=y
 simp at h
 subst h
 rfl
theorem kT (n len:Nat):a5Q none (some (n:Int)) 1 len=a3Z (min n len):=by
 unfold a5Q sliceRange
 have h1:¬((n:Int) < 0):=by omega
 have h2:max 0 (min (n:Int) (len:Int))=((min n len:Nat):Int):=by omega
 simp only[show(1:Int) > 0 by decide,if_true,h1,if_false,h2]
 have h3:(if (0:Int) < ((min n len:Nat):Int) then (((min n len:Nat):Int) - 0+1 - 1)/1 else 0).toNat=min n len:=by
   split
   · rw[Int.ediv_one];omega
   · omega
 rw[h3]
 apply b2V
 intro i
 rw[zF]
 by_cases h:i < min n len
 · simp[yA h]
 · simp[a1Z (show(a3Z (min n len)).length<=i by simp;omega)]
theorem gS (l:List Nat) (a:Array Nat) (m:Nat) (h:a.toList=l):(a3Z m).filterMap (fun i=>a[i]?)=l.take m:=by
 induction m with
 | zero=>simp
 | succ m ih=>
   rw[List.range_succ,List.filterMap_append,ih,a4X]
   have e:a[m]?=l[m]?:=by rw[← h];simp
   simp only[b0W,List.filterMap_nil,e]
   cases l[m]? <;> simp
theorem HR (z:Str) (n:Nat):(a1X z none (some (n:Int))).cps.toList=z.cps.toList.take n:=by
 unfold a1X
 rw[kT]
 have hl:z.length=z.cps.toList.length:=by simp[Str.length]
 split
 · rename_i h
   simp only[xZ,beq_self_eq_true,Bool.true_and,beq_iff_eq] at h
   rw[a8Z (by rw[← hl];omega)]
 · show(List.filterMap _ _).toArray.toList=_
   rw[gS z.cps.toList z.cps _ rfl,List.toList_toArray,hl,b6K]
   omega
theorem gT {z:Str}{n:Nat}{c:Nat}(h:c∈(a1X z none (some (n:Int))).cps.toList):c∈z.cps.toList:=by
 rw[HR] at h;exact a7J h
theorem AT (x y:Str):(x++y).cps.toList=x.cps.toList++y.cps.toList:=by
 show(x.cps++y.cps).toList=_
 simp
theorem JD:(a0Q "abcdefghijklmnopqrstuvwxyz").length=26:=by decide +kernel
theorem kU {M:Own}{p A:Addr}{o o' x y:MO}(h:p≠A):(((M.put p o).put A x).put p o').put A y=(M.put p o').put A y:=by
 funext b
 unfold Own.put
 by_cases h1:b=A
 · simp[h1]
 · by_cases h2:b=p
   · simp[h2,h1,h]
   · simp[h1,h2]
theorem flt (l:List PyData):l.filter (fun _=>true)=l:=List.filter_eq_self.mpr (by simp)
theorem UD (z:Str):(AK z).length=z.cps.size:=by simp[AK]
theorem kW:(a0Q "abcdefghijklmnopqrstuvwxyz").cps.size=26:=by decide +kernel
theorem UE (z:Str) (l u:Option Int) {n:Nat}(h:z.length<=n):(a1X z l u).length<=n:=zN (Txt.slice_le z l u) h
theorem aW {c:Nat}(h:CW c=true):c < 128:=by
 unfold CW at h;simp at h;omega
theorem UF (s:Str):BK (.str s)=(decide (1<=s.cps.size)&&decide (s.cps.size<=8)&&s.cps.toList.all CW):=rfl
theorem NX (s:Str):s.cps.size=s.cps.toList.length:=by simp
theorem MM {z:Str}(h:AG z):okD (.str z):=⟨by have:=h.2.1;omega,fun c hc=>aW (h.2.2 c hc)⟩
end DL
namespace DL
open PySem PySem.Spec L2
def sl (a b:Str):Bool:=b4V a.cps.toList b.cps.toList
theorem UG:∀a:List Nat,b4V a a=false
 | []=>rfl
 | a::r=>by simp[b4V,UG r]
theorem Y6:∀a b c:List Nat,b4V a b=true->b4V b c=true->b4V a c=true
 | [],[],_,h,_=>by cases h
 | [],_::_,[],_,h=>by cases h
 | [],_::_,_::_,_,_=>rfl
 | _::_,[],_,h,_=>by cases h
 | _::_,_::_,[],_,h=>by cases h
 | a::r,b::t,c::u,h1,h2=>by
   simp only[b4V,Bool.or_eq_true,decide_eq_true_eq,a0V,beq_iff_eq] at h1 h2 ⊢
   rcases h1 with h1 | ⟨rfl,h1⟩
   · rcases h2 with h2 | ⟨rfl,h2⟩
     · exact .inl (Nat.lt_trans h1 h2)
     · exact .inl h1
   · rcases h2 with h2 | ⟨rfl,h2⟩
     · exact .inl h2
     · exact .inr ⟨rfl,Y6 r t u h1 h2⟩
theorem Y7:∀a b:List Nat,b4V a b=false->b4V b a=false->a=b
 | [],[],_,_=>rfl
 | [],_::_,h,_=>by cases h
 | _::_,[],_,h=>by cases h
 | a::r,b::t,h1,h2=>by
   simp only[b4V,Bool.or_eq_false_iff,decide_eq_false_iff_not,Bool.and_eq_false_iff] at h1 h2
   have e:a=b:=by omega
   subst e
   simp at h1 h2
   rw[Y7 r t h1 h2]
theorem UH (a:Str):sl a a=false:=UG _
theorem MN {a b c:Str}(h1:sl a b=true) (h2:sl b c=true):sl a c=true:=Y6 _ _ _ h1 h2
theorem QS {a b:Str}(h1:sl a b=false) (h2:sl b a=false):a=b:=C7 (Y7 _ _ h1 h2)
theorem Y8 {a b:Str}(h:sl a b=true):sl b a=false:=by
 cases e:sl b a with
 | false=>rfl
 | true=>have:=MN h e;rw[UH] at this;cases this
theorem kX (a b:Str):decide (a.cps.toList < b.cps.toList)=sl a b:=PyProof.Rows.lt_meets a b
def Ris (ss:List Str):Prop:=ss.Pairwise fun a b=>sl a b=true
def PH:List Str->Bool
 | a::b::r=>sl a b&&PH (b::r)
 | _=>true
theorem Y9:∀ss:List Str,PH ss=true↔Ris ss
 | []=>by simp[PH,Ris]
 | [a]=>by simp[PH,Ris]
 | a::b::r=>by
   have ih:=Y9 (b::r)
   unfold Ris at ih ⊢
   simp only[PH,a0V]
   constructor
   · rintro⟨h1,h2⟩
     have h3:=ih.mp h2
     refine List.pairwise_cons.mpr ⟨fun c hc=>?_,h3⟩
     rcases yX.mp hc with rfl | hc
     · exact h1
     · exact MN h1 ((List.pairwise_cons.mp h3).1 c hc)
   · intro h
     have h':=List.pairwise_cons.mp h
     exact⟨h'.1 b a1J,ih.mpr h'.2⟩
theorem YA:∀ss:List Str,((ss.zip (ss.drop 1)).map fun p=>sl p.1 p.2).all id=PH ss
 | []=>rfl
 | [_]=>rfl
 | a::b::r=>by
   have ih:=YA (b::r)
   simp only[List.drop_succ_cons,b1Z] at ih ⊢
   rw[a6J,zI,List.all_cons]
   simp only[PH,id]
   rw[← ih]
theorem gU:∀ss:List Str,xG ss=true->ss.Pairwise fun a b=>sl b a=false
 | [],_=>.nil
 | a::r,h=>by
   have key:∀(r:List Str) (p:Str),PyProof.Rows.risingS p r=true->(p::r).Pairwise fun a b=>sl b a=false:=by
     intro r
     induction r with
     | nil=>intro p _;simp
     | cons x r ih=>
       intro p h
       unfold PyProof.Rows.risingS at h
       simp only[a0V,c1W] at h
       have h2:=ih x h.2
       refine List.pairwise_cons.mpr ⟨fun c hc=>?_,h2⟩
       have hx:sl x p=false:=h.1
       rcases yX.mp hc with rfl | hc
       · exact hx
       · have hcx:sl c x=false:=(List.pairwise_cons.mp h2).1 c hc
         cases e:sl c p with
         | false=>rfl
         | true=>
           cases e2:sl x c with
           | true=>have:=MN e2 e;rw[hx] at this;cases this
           | false=>have:=QS hcx e2;subst this;rw[hx] at e;cases e
   exact key r a h
theorem aX {ss:List Str}(h:xG ss=true) (nd:ss.Nodup):Ris ss:=by
 unfold Ris
 have h1:=gU ss h
 refine(List.Pairwise.and h1 nd).imp fun {a b} ⟨x,y⟩=>?_
 cases e:sl a b with
 | true=>rfl
 | false=>exact absurd (QS e x) y
theorem Ris.nodup {ss:List Str}(h:Ris ss):ss.Nodup:=h.imp fun {a b} q=>by rintro rfl;rw[UH] at q;cases q
theorem BX {d:PyData}(h1:d.canLay0=true) (h2:d.depth<=64):zH d=true:=by
 unfold zH;rw[h1,decide_eq_true h2];rfl
theorem HS {ds:List PyData}(h:∀d∈ds,d.canLay0=true):c0Z ds=true:=by
 induction ds with
 | nil=>rfl
 | cons d r ih=>rw[c0Z,h d a1J,ih fun x hx=>h x (yV _ hx)];rfl
theorem QT {ds:List PyData}{n:Nat}(h:∀d∈ds,d.depth<=n):a1V ds<=n:=by
 induction ds with
 | nil=>simp[a1V]
 | cons d r ih=>
   have h1:=h d a1J
   have h2:=ih fun x hx=>h x (yV _ hx)
   simp only[a1V];omega
theorem DZ {z:Str}(h:AG z):b4Q z=true:=by
 unfold b4Q
 rw[Array.all_eq_true']
 intro c hc
 have:=aW (h.2.2 c (by simpa using hc))
 simp;omega
theorem PJ (ys:List Str):a0W (.list (ys.map .str)) (.list [])=ys.isEmpty:=by
 cases ys with
 | nil=>rfl
 | cons y r=>simp[a0W,PyData.eqvAll]
theorem QU:∀c∈(a0Q "abcdefghijklmnopqrstuvwxyz").cps.toList,CW c=true:=by decide +kernel
theorem aY:(a0Q "abcdefghijklmnopqrstuvwxyz").cps.toList.Nodup:=by decide +kernel
end DL
namespace DL
open PySem PySem.Spec L2
theorem sIx_nat (n d k:Nat):HT.sIx n d (some (k:Int))=min k n:=HT.sIx_nat n d k
theorem GX (xs:List PyData) (k:Nat):EA xs (some (k:Int)) none=xs.drop k:=by
 unfold EA
 rw[sIx_nat]
 show(xs.drop (min k xs.length)).take (xs.length - min k xs.length)=_
 rw[a8Z (by rw[a6K];omega)]
 by_cases h:k<=xs.length
 · rw[b2K h]
 · rw[b7K (by omega),a4J (zR _),a4J (by omega)]
theorem VS (xs:List PyData) (k:Nat):EA xs none (some (k:Int))=xs.take k:=by
 unfold EA
 rw[sIx_nat]
 show(xs.drop 0).take (min k xs.length - 0)=_
 rw[b1Z,Nat.sub_zero,b6K];omega
theorem VT (xs:List PyData) (a b:Nat):EA xs (some (a:Int)) (some (b:Int))=(xs.take b).drop a:=by
 unfold EA
 rw[sIx_nat,sIx_nat,List.drop_take]
 by_cases h:a<=xs.length
 · rw[b2K h,b6K,a6K];omega
 · rw[a4J (show xs.length<=min a xs.length by omega),a4J (show xs.length<=a by omega)];simp
def fn2 (pre:PyData->PyData->Prop) (f:PyData->PyData->PyData):FSp:=⟨fun xs _=>∃a b,xs=[.d a,.d b]/\pre a b,fun xs M y M'=>∀a b,xs=[.d a,.d b]->y = .d (f a b)/\M'=M⟩
theorem kY {pre:PyData->PyData->Prop}{f:PyData->PyData->PyData}{a b:PyData}{M:Own}{Q:DS->Own->Prop}(p:pre a b) (q:Q (.d (f a b)) M):[DS.d a,.d b].length=2/\(fn2 pre f).pre [.d a,.d b] M/\∀x M',(fn2 pre f).post [.d a,.d b] M x M'->Q x M':=
 ⟨rfl,⟨a,b,rfl,p⟩,fun x M' h=>by obtain⟨rfl,rfl⟩:=h a b rfl;exact q⟩
def BD:PyData->Bool | .tuple [a,b,c]=>BK a&&DY b&&FR c | _=>false
def A05:PyData->PyData | .tuple (a::_)=>a | d=>d
def OI:PyData->Str | .str z=>z | _=>⟨#[]⟩
def nm0 (d:PyData):Str:=OI (A05 d)
def MP:PyData->Bool | .tuple ds=>ds.all BD&&PH (ds.map nm0) | _=>false
def vT:PyData->Prop | .tuple (a::_)=>okD a | _=>True
def okW:PyData->Prop | .tuple ds=>ds.length<=5000/\∀d∈ds,vT d | _=>True
def A0W:PyData->Bool | .list ds=>PH (ds.map OI) | _=>false
def VU:FSp:=fn1 (fun d=>∃ss:List Str,d = .list (ss.map .str)/\ss.length<=5000) fun d=>.bool (A0W d)
def HU:FSp:=fn1 vT fun d=>.bool (BD d)
def LQ:FSp:=fn1 okW fun d=>.bool (MP d)
abbrev Th:=Str×Int×Int
def thD (t:Th):PyData:=.tuple [.str t.1,.int t.2.1,.int t.2.2]
def wD (w:List Th):PyData:=.tuple (w.map thD)
def goodW (w:List Th):Prop:=Ris (w.map (·.1))/\∀t∈w,AG t.1/\0<=t.2.1/\t.2.1<=999/\-1000000000000<=t.2.2/\t.2.2<=1000000000000
theorem UI (ss:List Str):A0W (.list (ss.map .str))=PH ss:=by
 show PH ((ss.map a0X).map OI)=_
 rw[zD]
 have:(OI∘a0X)=id:=rfl
 rw[this,c2V]
def ltP:PyData->Bool | .tuple [.str a,.str b]=>sl a b | _=>false
theorem QV (as bs:List Str):F6 (as.map .str) (bs.map .str)=(as.zip bs).map fun p=>.tuple [.str p.1,.str p.2]:=by
 unfold F6
 rw[List.zip_map,zD];rfl
theorem vU (as bs:List Str):((F6 (as.map .str) (bs.map .str)).filter fun _=>true).map (fun d=>PyData.bool (ltP d))=((as.zip bs).map fun p=>sl p.1 p.2).map .bool:=by
 rw[flt,QV,zD,zD];rfl
theorem NY {d:PyData}(h:BK d=true):∃z,d = .str z/\AG z:=by
 cases d with
 | str z=>
   rw[UF] at h
   simp only[a0V,decide_eq_true_eq,a6W] at h
   exact⟨z,rfl,h.1.1,h.1.2,h.2⟩
 | _=>cases h
theorem QW {z:Str}(h:AG z):BK (.str z)=true:=by
 rw[UF,decide_eq_true h.1,decide_eq_true h.2.1,List.all_eq_true.mpr h.2.2];rfl
theorem dQ (w:List Th):(w.map thD).map nm0=w.map (·.1):=by rw[zD];rfl
theorem pO {t:Th}(h:AG t.1):vT (thD t):=MM h
end DL
namespace DL
open PySem PySem.Spec L2
section
variable {K:Frg}{ρ:List (Option DS)}{M:Own}{g:TG}{wi:TI}
theorem VW {fr:List (Option Nat)}{tt:TT}{te:TE}{T:List Nat}{Q:DS->Own->Prop}(ho:QM g T) (hT:∀i∈T,∀j,fr[i]?≠some (some j))
   (h:DI K wi ρ M fun ds M1=>ds.length < sizeLine/\∃(c:PyData->Bool) (f:PyData->PyData),(∀d∈ds,∀A acc M',M1 A=none->M'=M1.put A (.l acc)->DG K g d (OH fr ρ) M' fun ρ2 M2=>M2=M'/\DT K tt ρ2 M2 fun b M3=>M3=M'/\b=c d/\(c d=true->DE K te ρ2 M3 fun y M4=>y = .d (f d)/\M4=M'))/\Q (.d (.list ((ds.filter c).map f))) M1) :
   DE K (U8 fr wi g tt te) ρ M Q:=by
 refine VM ho hT fun σ H R Rl k=>h σ H R Rl fun J ds H1 M1 o1 t1 wd q=>k J ds H1 M1 o1 t1 wd ?_
 obtain⟨hsz,c,f,he,q⟩:=q
 refine⟨hsz,fun A hA=>⟨fun k acc M'=>acc=((ds.take k).filter c).map f/\M'=M1.put A (.l acc),⟨by simp,rfl⟩,fun k acc M' ⟨e1,e2⟩=>⟨by rw[e2];exact zU,?_⟩,fun k d acc M' hd ⟨e1,e2⟩=>?_,fun acc M' ⟨e1,e2⟩=>?_⟩⟩
 · rw[e1,zX]
   exact zN (yJ _ _) (by rw[a2Z];omega)
 · have hm:d∈ds:=yN hd
   intro σ H v QQ R dv kk
   refine he d hm A acc M' hA e2 σ H v QQ R dv fun ρ' M2 σ' H' R' st ⟨eM,q2⟩=>kk ρ' M2 σ' H' R' st fun σ2 H2 QQ2 R2 k2=>?_
   refine q2 σ2 H2 QQ2 R2 fun b H3 M3 o3 st3 ⟨eM3,eb,q3⟩=>k2 b H3 M3 o3 st3 ?_
   have ts:(ds.take (k+1)).filter c=(ds.take k).filter c++(if c d then [d] else []):=take_succ_filter c ds k d hd
   cases hb:c d with
   | false=>
     rw[hb] at eb
     subst eb
     refine L2.oJ ⟨?_,by rw[eM3,e2]⟩
     rw[ts,hb,e1];simp
   | true=>
     rw[hb] at eb
     subst eb
     refine L2.oK ?_
     refine dI (q3 hb) fun y M4 ⟨ey,e4⟩=>⟨f d,ey,by rw[e4,e2];exact zU,?_,by rw[e4,e2,yI]⟩
     rw[ts,hb,e1];simp
 · rw[e2,yG hA,e1,a2K]
   exact q
end
theorem YB {as bs:List Str}(h:as.map a0X=bs.map a0X):as=bs:=by
 have:=congrArg (List.map OI) h
 rw[zD,zD] at this
 simpa [show(OI∘a0X)=id from rfl] using this
theorem EW {K:Frg}{ρ:List (Option DS)}{M:Own}{D:EndsD}{te:TE}{g:TG}(h:DE K te ρ M fun x M1=>∃d,x = .d d/\DG K g d ρ M1 D.nx):DSt K (nX te g) ρ M D:=fun σ H E R k1 _ _ _=>
 h σ H _ R fun v H' x M' a b c q=>by
   obtain⟨d,rfl,q⟩:=q
   exact q σ H' v _ (R.step a c) b fun ρ2 M2 σ2 H2 R2 st2 p=>k1 ρ2 M2 σ2 H2 R2 (c.trans st2) p
theorem kZ {X:Cx}:MtR X "list.append" VG:=U3
end DL
namespace L2
open PySem PySem.Spec PyProof.Rows
def EntS (w:World):List DictEntry->List (Str×Str)->Prop
 | [],[]=>True
 | e::es,kv::r=>e.hash=hashStr w kv.1/\(∃t,e.key = .str kv.1 t)/\(∃t,e.val = .str kv.2 t)/\EntS w es r
 | _,_=>False
def GDict (w:World) (K:Frg) (a:Addr) (kvs:List (Str×Str)):Prop:=
 (a==sysModules)=false/\(kvs.map (·.1)).Nodup/\∃es ep,K.lookup a=some { cls:=.type "dict", data:=.dict es ep }/\EntS w es.toList kvs
theorem EntS.pairs {P:Program}{w:World}:∀{es:List DictEntry}{kvs:List (Str×Str)},EntS w es kvs->∃vs:List (Key×Value),Pairs (AM P w) es vs/\KV (kvs.map fun kv=>((a1K kv.1:Key),V.str kv.2)) vs/\vs.map (·.1)=kvs.map (fun kv=>(a1K kv.1:Key))/\∀e∈es,∃k,(AM P w).is k e.key=true/\e.hash=(AM P w).hash k
 | [],[],_=>⟨[],.nil,.nil,rfl,by simp⟩
 | e::es,kv::r,⟨h1,⟨t,h2⟩,⟨t',h3⟩,h4⟩=>by
   obtain⟨vs,a,b,c,d⟩:=EntS.pairs (P:=P) h4
   have hk:(AM P w).is (a1K kv.1) e.key=true:=by rw[h2];exact OE P w kv.1 t
   refine⟨(a1K kv.1,e.val)::vs,.cons hk rfl a,.cons ⟨rfl,⟨t',h3⟩⟩ b,by rw[zI,zI,c],fun x hx=>?_⟩
   rcases yX.mp hx with rfl | hx
   · exact⟨_,hk,h1⟩
   · exact d x hx
section
variable {X:Cx}{pins:List (Addr×Obj)}{σ:St}{H:Hp}{s:Shared}
theorem GDict.at {a:Addr}{kvs:List (Str×Str)}(g:GDict X.w X.K a kvs) (I:Inv X pins σ H s):∃vs,KV (kvs.map fun kv=>((a1K kv.1:Key),V.str kv.2)) vs/\s.heap.DictOf (AM X.prog X.w) a vs:=by
 obtain⟨_,nd,es,ep,hk,he⟩:=g
 obtain⟨vs,p1,p2,p3,p4⟩:=he.pairs (P:=X.prog)
 refine⟨vs,p2,_,es,ep,I.kIn a _ hk,⟨rfl,rfl,rfl⟩,rfl,fun e he=>p4 e (by simpa using he),p1,?_⟩
 rw[p3]
 have:kvs.map (fun kv=>(a1K kv.1:Key))=(kvs.map (·.1)).map a1K:=by rw[zD];rfl
 rw[this]
 unfold List.Nodup
 rw[b2W]
 exact nd.imp fun {a b} q e=>q (by injection e)
def sQ (kvs:List (Str×Str)) (ty:TE):TE:=fun σ H Q=>ty σ H fun y H1=>∃k:Str,y = .str k/\Q (((kvs.lookup k).map V.str).getD .non) H1
theorem YC (kvs:List (Str×Str)) (k:Str):FP (kvs.map fun kv=>((a1K kv.1:Key),V.str kv.2)) (a1K k)=(kvs.lookup k).map V.str:=by
 induction kvs with
 | nil=>rfl
 | cons kv r ih=>
   obtain⟨a,b⟩:=kv
   unfold FP at ih ⊢
   rw[zI,a9W,a3X]
   by_cases h:a=k
   · subst h;simp
   · have h1:decide ((a1K a:Key)=a1K k)=false:=decide_eq_false fun e=>h (by injection e)
     have h2:(k==a)=false:=by simpa using fun e=>h e.symm
     simp only[h1,h2]
     exact ih
theorem pP {x:Str}{p apos cpos:Pos}{e:Expr}{ty:TE}{kvs:List (Str×Str)}(hg:Gl X x) (hm:∃a,X.mg x=some (.ref a)/\GDict X.w X.K a kvs) (he:PE X e ty) (m:M1 X (.Name x p) "get" apos e cpos) (hd:(x==("__debug__":Str))=false:=by decide) :
   PE X (.Call (.Attribute (.Name x p) "get" apos) [e] [] cpos) (sQ kvs ty):=by
 obtain⟨a,hm,g⟩:=hm
 intro pins s σ H Q I h
 refine wpAny_Call_method m.base m.few m.line c0V b1K PySem.F.type_dict_get (VB I hg hm ?_ hd)
 obtain⟨vs,rel,dd⟩:=g.at I
 refine⟨dd.typeIs,fun b q=>?_,?_⟩
 · cases q
   obtain⟨ob,_,_,h1,h2,_⟩:=dd
   exact⟨ob,h1,h2.2.1⟩
 rw[m.trees]
 refine b1X rfl (b3Z (xP (thn (he pins s σ H _ I h) fun iv s2 ⟨y,H2,I2,ry,k,ey,q2⟩=>c1X ?_)))
 subst ey
 obtain⟨vs',rel',dd'⟩:=g.at I2
 refine call_meetsIn b1K dd'.typeIs c2X (PySem.F.args_dict_get_2 _ _) (meets_dict_get (AM X.prog X.w) a (L1 (k:=a1K k) ry) g.1) ⟨_,dd'.mapOf,?_⟩
 refine⟨_,H2,I2.tok _,?_,q2⟩
 have:=(rel'.val (a1K k)).getD (show RelV .non .none from rfl)
 rw[YC] at this
 exact this
end
end L2
namespace DL
open PySem PySem.Spec L2
section
variable {K:Frg}{ρ:List (Option DS)}{M:Own}{Q:DS->Own->Prop}{ty:TE}
def aZ:Option Str->PyData | some z=>.str z | none=>.none
theorem pQ {kvs:List (Str×Str)}(h:DE K ty ρ M fun y M1=>∃k,y = .d (.str k)/\Q (.d (aZ (kvs.lookup k))) M1):DE K (sQ kvs ty) ρ M Q:=fun σ H QQ R k=>
 h σ H _ R fun v H1 x M1 o1 s1 t1 h1=>by
   obtain⟨z,rfl,q⟩:=h1
   refine⟨z,AO s1,?_⟩
   cases e:kvs.lookup z with
   | none=>rw[e] at q;exact k _ H1 (.d .none) M1 o1 (by unfold SI DV;rfl) t1 q
   | some y=>rw[e] at q;exact k _ H1 (.d (.str y)) M1 o1 BW t1 q
theorem vV {neg:Bool}{x:Str}{ys:List Str}(q:Q (.d (.bool (if neg then !decide (x∈ys) else decide (x∈ys)))) M):D2 K (rIn K neg) (.d (.str x)) (.d (.tuple (ys.map .str))) M Q:=fun H v u QQ oa s1 s2 k=>by
 rw[AO s1]
 unfold SI DV at s2
 obtain⟨a,vs,rfl,hl,hd⟩:=s2
 have e:=J7 hd
 subst e
 exact⟨a,_,rfl,.inr hl.sq,rfl,by simp[L0],k _ H (.d (.bool (if neg then !decide (x∈ys) else decide (x∈ys)))) M oa (by rw[Y0];exact AJ) Step.refl q⟩
theorem pR {x:Str}{ys:List Str}(q:Q (.d (.bool (decide (x∈ys)))) M):D2 K (k6 K) (.d (.str x)) (.d (.tuple (ys.map .str))) M Q:=GN (vV (neg:=false) q)
end
end DL
namespace L2
open PySem PySem.Spec PyProof.Rows
section
variable {X:Cx}
def VX:V->List V->Hp->VK->Prop:=fun v vs H Q=>∃x y,v = .str x/\vs=[.str y]/\Q (.bl (b1J x y)) H
theorem gV:MtR X "str.startswith" VX:=by
 intro pins s σ H x xs v us Q I rx rv h
 obtain⟨y,z,rfl,rfl,q⟩:=h
 obtain⟨t,rfl⟩:=rx
 obtain⟨u,rfl,t',rfl⟩:=D0 rv
 exact SC.startswith ⟨.bl _,H,I,rfl,q⟩
def PK (z:Str) (n:Int):Str:=if (n==1||z.length==0)=true then z else ⟨(a4K n.toNat z.cps).foldl (·++·) #[]⟩
def dR:R2:=fun x y H Q=>(rI (fun i j=>IntMulOk i j) fun i j=>.int (i*j)) x y H Q∨∃z n,x = .str z/\y = .int n/\1<=n/\n<=8/\z.length<=1000/\Q (.str (PK z n)) H
theorem YD (a:Array Nat):∀(n:Nat) (b:Array Nat),(List.foldl (fun x1 x2=>x1++x2) b (a4K n a)).size=b.size+n*a.size
 | 0,b=>by simp
 | n+1,b=>by
   rw[b4J,List.foldl_cons,YD a n,Array.size_append,Nat.succ_mul];omega
theorem QX (a:Array Nat):∀(n:Nat) (b:Array Nat),(List.foldl (fun x1 x2=>x1++x2) b (a4K n a)).toList=b.toList++(a4K n a.toList).flatten
 | 0,b=>by simp
 | n+1,b=>by
   rw[b4J,List.foldl_cons,QX a n,b4J];simp
theorem pS:OpR X (binaryOp .Mult) dR:=by
 intro pins s σ H x y v u Q I rx ry h
 rcases h with h | ⟨z,n,rfl,rfl,h1,h2,h3,q⟩
 · exact(opI (C:=fun i j=>IntMulOk i j) fun _ _ _ _ _ _ _ hc q=>mul_int q hc) pins s σ H x y v u Q I rx ry h
 · obtain⟨t,rfl⟩:=rx
   obtain⟨t',rfl⟩:=ry
   have hp:(2:Int) ^ 63=9223372036854775808:=by decide
   refine P.mul_str ?_ (fun _ _=>?_) (fun _ _=>?_) ?_
   · rw[decide_eq_false (Int.not_lt.mpr (Int.le_trans (by decide) h1)),decide_eq_false (Int.not_le.mpr (Int.lt_of_le_of_lt h2 (by decide)))];rfl
   · rw[hp]
     have h5:(1000:Int)<=(9223372036854775808 - 1)/n:=Int.le_ediv_of_mul_le (Int.lt_of_lt_of_le (by decide) h1) (Int.le_trans (Int.mul_le_mul_of_nonneg_left h2 (by decide)) (by decide))
     exact fun hc=>absurd (Int.lt_of_le_of_lt h5 hc) (Int.not_lt.mpr (Int.ofNat_le.mpr h3))
   · have hm:z.length*n.toNat<=1000*1000:=Nat.mul_le_mul h3 (by omega)
     unfold Builtin.Str.tooLong
     rw[decide_eq_false]
     exact fun hc=>absurd (zP hc hm) (by decide)
   · rw[if_neg (by omega)]
     have q':=q
     unfold PK at q'
     split
     · rename_i e
       rw[if_pos e] at q'
       exact⟨.str z,H,I,⟨_,rfl⟩,q'⟩
     · rename_i e
       rw[if_neg e] at q'
       refine⟨?_,⟨.str _,H,I.tok _,⟨_,rfl⟩,q'⟩⟩
       show(List.foldl (fun x1 x2=>x1++x2) #[] (a4K n.toNat z.cps)).size<=sizeLine
       rw[YD]
       have hm:(#[]:Array Nat).size+n.toNat*z.cps.size<=8*1000:=by
         rw[show(#[]:Array Nat).size=0 from rfl,Nat.zero_add]
         exact Nat.mul_le_mul (by omega) h3
       exact zN hm (by decide)
end
end L2
namespace DL
open PySem PySem.Spec L2
section
variable {X:Cx}{K:Frg}
theorem JE (_:X.K=K):MtR X "str.startswith" VX:=gV
theorem A0X (_:X.K=K):OpR X (binaryOp .Mult) dR:=pS
def sR:List V->Hp->VK->Prop:=fun xs H Q=>(∃i,xs=[.int i]/\Q (.int i) H)∨∃k,xs=[.bl k]/\Q (.int (if k then 1 else 0)) H
def dU:List V->Hp->VK->Prop:=fun xs H Q=>∃i j,xs=[.int i,.int j]/\yK i j/\∀p,H p=none->Q (.ref p) (upd H p (.tup [.int (i/j),.int (i % j)]))
theorem A06 (_:X.K=K):BQ X (.type "int") sR:=gC
theorem pT (_:X.K=K):BQ X (.builtin "divmod") dU:=XJ
end
section
variable {K:Frg}{ρ:List (Option DS)}{M:Own}{Q:DS->Own->Prop}
theorem NZ {x y:Str}(q:Q (.d (.bool (b1J x y))) M):DM K VX (.d (.str x)) [.d (.str y)] M Q:=fun H v vs QQ oa s1 s2 k=>by
 obtain⟨u,r,rfl,h1,h2⟩:=s2
 cases h2
 rw[AO s1,AO h1]
 exact⟨x,y,rfl,rfl,k _ H _ M oa AJ Step.refl q⟩
theorem l5 {i j:Int}(c:IntMulOk i j) (q:Q (.d (.int (i*j))) M):D2 K dR (.d (.int i)) (.d (.int j)) M Q:=fun H v u QQ oa s1 s2 k=>by
 rw[C0 s1,C0 s2]
 exact .inl ⟨i,j,rfl,rfl,c,k _ H _ M oa BJ Step.refl q⟩
theorem vW {z:Str}{n:Int}(h1:1<=n) (h2:n<=8) (h3:z.length<=1000) (q:Q (.d (.str (PK z n))) M):D2 K dR (.d (.str z)) (.d (.int n)) M Q:=fun H v u QQ oa s1 s2 k=>by
 rw[AO s1,C0 s2]
 exact .inr ⟨z,n,rfl,rfl,h1,h2,h3,k _ H _ M oa BW Step.refl q⟩
theorem pU {b:Bool}(q:Q (.d (.int (if b then 1 else 0))) M):DR K sR [.d (.bool b)] M Q:=fun H vs QQ oa s k=>by
 obtain⟨v,r,rfl,h1,h2⟩:=s
 cases h2
 rw[sN h1]
 exact .inr ⟨b,rfl,k _ H _ M oa BJ Step.refl q⟩
theorem gW {i j:Int}(h0:0 < j) (hj:j < 1073741824) (q:Q (.d (.tuple [.int (i/j),.int (i % j)])) M):DR K dU [.d (.int i),.d (.int j)] M Q:=fun H vs QQ oa s k=>by
 obtain⟨v,r,rfl,h1,v2,r2,rfl,h2,h3⟩:=s
 cases h3
 rw[C0 h1,C0 h2]
 refine⟨i,j,rfl,⟨h0,hj⟩,fun p hp=>?_⟩
 have g:Grow K M.W M.W H (upd H p (.tup [.int (i/j),.int (i % j)])):=AU _ hp
 refine k _ _ (.d (.tuple [.int (i/j),.int (i % j)])) M (oa.new hp) ?_ ⟨g⟩ q
 unfold SI DV
 exact⟨p,_,rfl,.inl ⟨fun w=>w (oa.none hp),.inl AH⟩,DVs.cons (by unfold DV;rfl) (DVs.cons (by unfold DV;rfl) DVs.nil)⟩
theorem l6 {g:TGs}{to ti:TE}{d:PyData}{ds:List PyData}{P:List (Option DS)->Own->Prop}
   (h:DE K to ρ M fun o M1=>DE K ti ρ M1 fun i M2=>∃a xs k j,o = .loc a/\i = .d (.int k)/\M2 a=some (.l xs)/\ixN xs.length k=some j/\DGs K g ds ρ (M2.put a (.l (xs.set j d))) P) :
   DGs K (cV (y4 to ti sF) g) (d::ds) ρ M P:=fun σ H vs QQ R hd kk=>by
 unfold DVs at hd
 obtain⟨v,r,rfl,h1,h2⟩:=hd
 refine⟨v,r,rfl,h σ H _ R fun w H2 y M2 o2 s2 t2 h3=>h3 σ H2 _ (R.step o2 t2) fun u H3 z M3 o3 s3 t3 h4=>?_⟩
 obtain⟨a,xs,k,j,rfl,rfl,m,hj,q⟩:=h4
 rw[C0 s3]
 have e:=s2.step t3
 unfold SI at e
 subst e
 obtain⟨vs,h0,hd'⟩:=o3 a _ m
 have t23:=t2.trans t3
 obtain⟨p1,p2⟩:=NU o3 m (hd'.set j (DV.grow t23.grow h1))
 have st:=t23.trans p2
 exact⟨a,vs,k,j,rfl,rfl,h0,by rw[hd'.length];exact hj,q σ _ r _ (R.step p1 st) (DVs.grow st.grow h2) fun ρ' M' σ' H' R' st' p=>kk ρ' M' σ' H' R' (st.trans st') p⟩
end
end DL
namespace L2
open PySem PySem.Spec PyProof.Rows PySem.W
theorem VY {ns:List Int}(h:WData.layableAll [WData.list (ns.map WData.int)]=true):∀i∈ns,xJ i<=2 ^ 20:=by
 have h1:WData.weightAll (ns.map WData.int)<=2 ^ 20:=by
   have h0:WData.layable (WData.list (ns.map WData.int))=true:=by
     unfold WData.layableAll at h
     simpa using h
   unfold WData.layable at h0
   rw[a0V] at h0
   exact of_decide_eq_true h0.2
 intro i hi
 refine zN ?_ h1
 clear h h1
 induction ns with
 | nil=>cases hi
 | cons n r ih=>
   rw[zI]
   show _<=WData.weight (.int n)+1+WData.weightAll (r.map WData.int)
   rcases yX.mp hi with rfl | hi
   · have:WData.weight (.int i)=xJ i:=rfl
     omega
   · have:=ih hi
     omega
theorem l7 {l:PySem.W.OpenLaw}{n k:Nat}{q:Program}{loose:List Str}{XP:(Str->Option Value)->Heap->Prop}{YP:World->Heap->Prop}{d:DefRec}{K:Params->Frg}{CX:World->CXT}{sp:World->Sp}{x:Str}
   (hn:l.most=some n) (hn2:n<=sizeLine) (hdf:d.params.defaults=[]) (hr:Room k callerA)
   (hY:∀(w:World) (h:Heap),YP w h->(K w.params).In h)
   (F:∀(w:World) (mg:Str->Option Value) (fa:Addr) (h:Heap),(K w.params).In h->h.Ns mainGlobals mg->mg d.name=some (.ref fa) ->
     ∃fd:FuncData,(∀(s:Shared) (u:Value),BindsTo s fd ⟨[u],[]⟩ [(x,u)]) /\
       ∀base:Heap,(K w.params).In base->base.Ns mainGlobals mg->FnOk l.prog w (K w.params) mg base (CX w) k fa fd [x] (sp w))
   (hsp:∀(w:World) (H:Hp) (a:Addr) (ns:List Int),ns.length<=n->(∀i∈ns,xJ i<=2 ^ 20)->uJ H->SqL (K w.params) H a (ns.map V.int)->sp w [.ref a] H (fun v _=>v = .bl true) fun _ _ _=>False)
   (hCX:∀(w:World) (H:Hp) (s:Shared) (e:Value) (s':Shared),CX w [] H s (fun _ _ _=>False) e s'->False) :
   PySem.W.WalkO q loose XP YP l.row.toRowW d [] (fun f vs=>PySem.call f vs):=by
 intro w s₀ s₁ mg mb G Y fa o pm cd doc dV kV ho hd hcd hD hmg hg args vals as hpre hlay hrd hwl hlo
 have e1:dV = .none:=Dflts.none hD hdf
 subst e1
 have e2:kV = .none:=Dflts.noKw hD
 subst e2
 obtain⟨a,vs,ns,rfl,rfl,hobj,hints,hlen⟩:=Att.script_of hn hpre hwl
 have hbits:=VY hlay
 refine enter_call (codeAny_mono (R:=fun r s'=>r = .ok (.ret (.bool true))/\OldK s₁.heap s'.heap/\s'.os=s₁.os/\AllBare s'.gens) ?_ fun r s' hq=>?_)
 · have KX:=hY w _ Y
   obtain⟨fd,hb,hF⟩:=F w mg fa _ KX G.T.g hmg
   exact jP KX G.T.g G.T.b G.T.builtins G.T.nolimit hg hobj hints (zN hlen hn2) hr hF hb (fun H hO hS=>hsp w H a ns hlen hbits hO hS) fun H e s'=>hCX w H s₁ e s'
 · have h1:=hq.1
   subst h1
   exact⟨.inl ⟨.bool true,.bool true,[],rfl,fun _=>rfl,.bool true,Att.post_true l _,fun _=>⟨List.Pairwise.nil,fun _ hm=>(nomatch hm)⟩⟩,hq.2.1,hq.2.2.1,hq.2.2.2⟩
end L2
namespace DL
open PySem PySem.Spec L2
theorem QY (i m:Nat) (a:Array Nat):((a3Z m).map (i+·)).filterMap (fun j=>a[j]?)=(a.toList.drop i).take m:=by
 induction m with
 | zero=>simp
 | succ m ih=>
   rw[List.range_succ,xI,List.filterMap_append,ih,a4X]
   have e:a[i+m]?=(a.toList.drop i)[m]?:=by rw[List.getElem?_drop];simp
   simp only[zI,a7W,b0W,List.filterMap_nil,e]
   cases (a.toList.drop i)[m]? <;> simp
theorem bA (n len:Nat):max 0 (min (n:Int) (len:Int))=((min n len:Nat):Int):=by
 rcases Nat.le_total n len with h | h
 · rw[b2K h,Int.min_eq_left (Int.ofNat_le.mpr h),Int.max_eq_right (b6X _)]
 · rw[b7K h,Int.min_eq_right (Int.ofNat_le.mpr h),Int.max_eq_right (b6X _)]
theorem l8 (a b:Nat):(if (a:Int) < (b:Int) then ((b:Int) - (a:Int)+1 - 1)/1 else 0).toNat=b - a:=by
 split
 · rw[Int.ediv_one];omega
 · omega
theorem l9 (n len:Nat):a5Q (some (n:Int)) none 1 len=(a3Z (len - min n len)).map (min n len+·):=by
 unfold a5Q sliceRange
 have h1:¬((n:Int) < 0):=Int.not_lt.mpr (b6X n)
 have h2:=bA n len
 simp only[show(1:Int) > 0 by decide,if_true,h1,if_false,h2]
 have h3:(if ((min n len:Nat):Int) < (len:Int) then ((len:Int) - ((min n len:Nat):Int)+1 - 1)/1 else 0).toNat=len - min n len:=l8 _ _
 rw[h3]
 apply yM
 intro i hi
 omega
theorem pV (n k len:Nat):a5Q (some (n:Int)) (some (k:Int)) 1 len=(a3Z (min k len - min n len)).map (min n len+·):=by
 unfold a5Q sliceRange
 have h1:¬((n:Int) < 0):=Int.not_lt.mpr (b6X n)
 have h1':¬((k:Int) < 0):=Int.not_lt.mpr (b6X k)
 have h2:=bA n len
 have h2':=bA k len
 simp only[show(1:Int) > 0 by decide,if_true,h1,h1',if_false,h2,h2']
 have h3:(if ((min n len:Nat):Int) < ((min k len:Nat):Int) then (((min k len:Nat):Int) - ((min n len:Nat):Int)+1 - 1)/1 else 0).toNat=min k len - min n len:=l8 _ _
 rw[h3]
 apply yM
 intro i hi
 omega
theorem E1 (z:Str) (n:Nat):(a1X z (some (n:Int)) none).cps.toList=z.cps.toList.drop n:=by
 unfold a1X
 rw[l9]
 have hl:z.length=z.cps.toList.length:=by simp[Str.length]
 split
 · rename_i h
   rw[a0V] at h
   have h:=eq_of_beq h.2
   rw[zX,xZ] at h
   have h0:n=0∨z.cps.toList.length=0:=by rw[hl] at h;omega
   rcases h0 with rfl | h0
   · simp
   · rw[List.length_eq_zero_iff.mp h0];simp
 · show(List.filterMap _ _).toArray.toList=_
   rw[QY,List.toList_toArray,hl]
   by_cases h:n<=z.cps.toList.length
   · rw[b2K h,a8Z (by rw[a6K];exact zR _)]
   · rw[b7K (by omega),a4J (zR _),a4J (by omega)];simp
theorem gX (z:Str) (n k:Nat):(a1X z (some (n:Int)) (some (k:Int))).cps.toList=(z.cps.toList.take k).drop n:=by
 unfold a1X
 rw[pV]
 have hl:z.length=z.cps.toList.length:=by simp[Str.length]
 have key:(z.cps.toList.drop (min n z.length)).take (min k z.length - min n z.length)=(z.cps.toList.take k).drop n:=by
   rw[hl,List.drop_take]
   by_cases h:n<=z.cps.toList.length
   · rw[b2K h,b6K,a6K]
     rcases Nat.le_total k z.cps.toList.length with h' | h'
     · rw[b2K h']
     · rw[b7K h',Nat.min_self,b7K (Nat.sub_le_sub_right h' n)]
   · rw[a4J (show z.cps.toList.length<=min n z.cps.toList.length by omega),a4J (show z.cps.toList.length<=n by omega)];simp
 split
 · rename_i h
   rw[a0V] at h
   have h:=eq_of_beq h.2
   rw[zX,xZ] at h
   rw[← key]
   have h5:=Nat.min_le_right k z.length
   have h0:min n z.length=0∨z.cps.toList.length=0:=by
     rw[← hl]
     revert h h5
     generalize min k z.length=a
     generalize min n z.length=b
     omega
   rcases h0 with h0 | h0
   · have h6:z.cps.toList.length<=min k z.length - 0:=by rw[← hl];rw[h0] at h;exact b5X h.symm
     rw[h0,b1Z,a8Z h6]
   · rw[List.length_eq_zero_iff.mp h0];simp
 · show(List.filterMap _ _).toArray.toList=_
   rw[QY,List.toList_toArray,key]
theorem bB {i N:Nat}(h:i < N) (hN:N<=26):i/8 < 26:=zQ (Nat.div_le_self i 8) (zP h hN)
theorem LR (k:Nat):(1:Int)<=1+(k:Int) % 8/\1+(k:Int) % 8<=8/\1<=(1+(k:Int) % 8).toNat/\(1+(k:Int) % 8).toNat<=8:=by
 have e:(k:Int) % 8=((k % 8:Nat):Int):=rfl
 rw[e]
 have:=Nat.mod_lt k (show 8 > 0 by decide)
 clear e
 generalize k % 8=r at *
 omega
theorem A0Y {i j:Nat}(h1:(1:Int)+(i:Int) % 8=1+(j:Int) % 8) (h2:i/8=j/8):i=j:=by
 have a:=Nat.div_add_mod i 8
 have b:=Nat.div_add_mod j 8
 have c:i % 8=j % 8:=by
   have:=Int.add_left_cancel h1
   exact Int.ofNat.inj this
 rw[← a,← b,h2,c]
theorem vX {t:Nat}(h:t<=26):26 - t+min t 26=26:=by rw[b2K h,Nat.sub_add_cancel h]
theorem vY {s L:Nat}(h:s<=7):min (3+s) L - 3<=7:=zN (Nat.sub_le_sub_right (Nat.min_le_left _ _) 3) (by rw[a4Z];exact h)
def bC (z:Str):Prop:=∀c∈z.cps.toList,CW c=true
theorem QZ {z:Str}(h:bC z) (h1:1<=z.cps.toList.length) (h2:z.cps.toList.length<=8):AG z:=⟨by rw[NX];exact h1,by rw[NX];exact h2,h⟩
theorem R0 {a b:Str}(h1:bC a) (h2:bC b):bC (a++b):=fun c hc=>by
 rw[AT] at hc
 exact(yW.mp hc).elim (h1 c) (h2 c)
theorem YE {c:Nat}(h:CW c=true):bC ⟨#[c]⟩:=fun d hd=>by
 have:d=c:=by simpa using hd
 subst this;exact h
theorem VZ {c:Nat}{n:Int}(h1:1<=n):(PK ⟨#[c]⟩ n).cps.toList=a4K n.toNat c:=by
 unfold PK
 split
 · rename_i h
   have:n=1:=by
     rw[Bool.or_eq_true,beq_iff_eq,beq_iff_eq] at h
     rcases h with h | h
     · exact h
     · exact absurd h (show ¬(1=0) by decide)
   subst this;rfl
 · show(List.foldl _ _ _:Array Nat).toList=_
   rw[QX]
   show []++(a4K n.toNat [c]).flatten=_
   rw[List.nil_append]
   induction n.toNat with
   | zero=>rfl
   | succ m ih=>rw[b4J,List.flatten_cons,ih,b4J];rfl
end DL
namespace L2
open PySem PySem.Spec PyProof.Rows PySem.Builtin PySem.Builtin.Str
section
variable {X:Cx}
theorem A0Z:∀(k:Nat) (ss:List Str),Vals (ss.map V.str) (strsFrom k ss)
 | _,[]=>.nil
 | k,x::r=>.cons ⟨_,rfl⟩ (A0Z (k+1) r)
def bD:V->List V->Hp->VK->Prop:=fun v vs H Q=>∃x y,v = .str x/\vs=[.str y]/\(y.length==0)=false/\x.length+2<=sizeLine/\∀p,H p=none->Q (.ref p) (upd H p (.lst ((a3V x y).map V.str)))
theorem lA:MtR X "str.split" bD:=by
 intro pins s σ H v vs v' us Q I rx rv h
 obtain⟨x,y,rfl,rfl,hy,hsz,q⟩:=h
 obtain⟨t,rfl⟩:=rx
 obtain⟨u,rfl,t',rfl⟩:=D0 rv
 have hno:H s.heap.objs.size=none:=I.hok.fresh (zR _)
 have hn:(partsBetween x (occurrences x y 0 x.length (x.length+1)) y.length).length<=sizeLine:=by
   have e1:=StrLaws.occ_length_le x y 0 x.length (x.length+1)
   rw[length_partsBetween];omega
 have fin:∀(its:List Value) (k:Nat),Vals ((a3V x y).map V.str) its->(a3V x y).length<=sizeLine->EP X pins σ Q (.ref s.heap.objs.size) { s with toks:=k,heap:=s.heap.push { cls:=.type "list", data:=.seq its.toArray } }:=fun its k hv hl=>
   ⟨.ref s.heap.objs.size,_,I.laid (o:=.lst ((a3V x y).map V.str)) (fun b o e=>zW _ e) (zR _) ⟨by rw[zX];exact hl,its,0,hv,yZ s.heap rfl⟩,rfl,q _ hno⟩
 have one:a3V x y=[x]->EP X pins σ Q (.ref s.heap.objs.size) { s with heap:=s.heap.push { cls:=.type "list", data:=.seq [b8Z x t].toArray } }:=fun e=>
   fin [.str x t] s.toks (by rw[e];exact .cons ⟨t,rfl⟩ .nil) (by rw[e];exact zN (show 1<=2 by decide) (zN (Nat.le_add_left _ _) hsz))
 cases h1:(decide (x.length < y.length)||decide (strKind x < strKind y))
 · cases hf:(occurrences x y 0 x.length (x.length+1)).isEmpty
   · refine call_meets b0Z (typeIs_str _ _ _) F.entry_str_split (F.args_str_split_2 _ _) (meets_str_split_sep x y t t' h1 hy hf (by omega) hn) ?_
     have e:a3V x y=partsBetween x (occurrences x y 0 x.length (x.length+1)) y.length:=(if_neg (ne_true_of_eq_false h1)).trans (if_neg (ne_true_of_eq_false hf))
     exact fin _ _ (by rw[e];exact A0Z _ _) (by rw[e];exact hn)
   · exact call_meets b0Z (typeIs_str _ _ _) F.entry_str_split (F.args_str_split_2 _ _) (meets_str_split_not_found x y t t' h1 hy hf) (one ((if_neg (ne_true_of_eq_false h1)).trans (if_pos hf)))
 · exact call_meets b0Z (typeIs_str _ _ _) F.entry_str_split (F.args_str_split_2 _ _) (meets_str_split_cannot_occur x y t t' h1) (one (if_pos h1))
def bE:V->List V->Hp->VK->Prop:=fun v vs H Q=>∃x y,v = .str x/\vs=[.str y]/\(y.length==0)=false/\x.length<=sizeLine/\∀p,H p=none->Q (.ref p) (upd H p (.tup [.str (a0J x y).1,.str (a0J x y).2.1,.str (a0J x y).2.2]))
theorem lB:MtR X "str.partition" bE:=by
 intro pins s σ H v vs v' us Q I rx rv h
 obtain⟨x,y,rfl,rfl,hy,hsz,q⟩:=h
 obtain⟨t,rfl⟩:=rx
 obtain⟨u,rfl,t',rfl⟩:=D0 rv
 have hno:H s.heap.objs.size=none:=I.hok.fresh (zR _)
 have fin:∀(ta tb tc k:Nat),EP X pins σ Q (.ref s.heap.objs.size) { s with toks:=k,heap:=s.heap.push { cls:=.type "tuple", data:=.seq [b8Z (a0J x y).1 ta,.str (a0J x y).2.1 tb,.str (a0J x y).2.2 tc].toArray } }:=fun ta tb tc k=>
   ⟨.ref s.heap.objs.size,_,I.laid (o:=.tup [.str (a0J x y).1,.str (a0J x y).2.1,.str (a0J x y).2.2]) (fun b o e=>zW _ e) (zR _) ⟨by simp only[yR,a8X];rw[sizeLine_eq];decide,_,.cons ⟨ta,rfl⟩ (.cons ⟨tb,rfl⟩ (.cons ⟨tc,rfl⟩ .nil)),⟨_,yZ s.heap rfl,rfl,0,rfl⟩⟩,rfl,q _ hno⟩
 refine call_meets c0W (typeIs_str _ _ _) F.entry_str_partition (F.args_str_partition_2 _ _) (meets_str_partition x y t t' hy hsz) ?_
 have h':=fin
 unfold a0J at h'
 revert h'
 cases occurrences x y 0 x.length 1 with
 | nil=>intro h';exact h' _ _ _ _
 | cons i r=>intro h';exact h' _ _ _ _
def bF:V->List V->Hp->VK->Prop:=fun v vs H Q=>∃x y i r,v = .str x/\vs=[.str y]/\occurrences x y 0 x.length 1=i::r/\Q (.int (i:Nat)) H
theorem lC:MtR X "str.index" bF:=by
 intro pins s σ H v vs v' us Q I rx rv h
 obtain⟨x,y,i,r,rfl,rfl,ho,q⟩:=h
 obtain⟨t,rfl⟩:=rx
 obtain⟨u,rfl,t',rfl⟩:=D0 rv
 exact SC.index ho ⟨.int i,H,I.tok _,⟨_,rfl⟩,q⟩
def A0a:R2:=fun x y H Q=>(rI0 fun i j=>.bl (decide (i<=j))) x y H Q∨∃i j,x = .str i/\y = .str j/\Q (.bl (!decide (j.cps.toList < i.cps.toList))) H
theorem vZ:OpR X (compareOp .LtE) A0a:=by
 intro pins s σ H x y v u Q I rx ry h
 rcases h with h | ⟨i,j,rfl,rfl,q⟩
 · exact XH pins s σ H x y v u Q I rx ry h
 · obtain⟨t,rfl⟩:=rx
   obtain⟨t',rfl⟩:=ry
   exact P.le_str ⟨.bl _,H,I,rfl,q⟩
def PF (X:Cx) (es:List Expr) (t:Str->TE):Prop:=
 ∀(out:Str) (pins:List (Addr×Obj)) (s:Shared) (σ:St) (H:Hp) (Q:VK),Inv X pins σ H s->t out σ H Q->wpAny (model X.prog X.w) X.A (joinParts out (evalEach es X.env)) (EP X pins σ Q) X.xe s
def A0b:Str->TE:=fun out σ H Q=>out.length<=sizeLine/\Q (.str out) H
def A0c (x:Str) (r:Str->TE):Str->TE:=fun out σ H Q=>(out++x).length<=sizeLine/\r (out++x) σ H Q
def A0d (te:TE) (r:Str->TE):Str->TE:=fun out σ H Q=>te σ H fun v H1=>∃x,v = .str x/\x.length<=sizeLine/\(out++x).length<=sizeLine/\r (out++x) σ H1 Q
def A0e (t:Str->TE):TE:=t Str.empty
theorem w6:PF X [] A0b:=fun out pins s σ H Q I h=>joinParts_nil ⟨.str out,H,I.tok _,⟨_,rfl⟩,h.2⟩ h.1
theorem lD {x:Str}{j:Nat}{pos:Pos}{es:List Expr}{r:Str->TE}(hr:PF X es r):PF X (.Constant (.str x) j pos::es) (A0c x r):=fun out pins s σ H Q I h=>
 joinParts_cons (Calls.Constant_str ⟨h.1,hr _ pins _ σ H Q (I.tok _) h.2⟩)
theorem bG {e:Expr}{pos:Pos}{es:List Expr}{te:TE}{r:Str->TE}(he:PE X e te) (hr:PF X es r):PF X (.FormattedValue e (-1) none pos::es) (A0d te r):=fun out pins s σ H Q I h=>
 joinParts_cons (FormattedValue_plain (thn (he pins s σ H _ I h) fun u s1 ⟨v,H1,I1,rv,x,ev,hx,hz,q⟩=>by
   subst ev
   obtain⟨t,rfl⟩:=rv
   exact formatField_str (fun t' tk=>⟨hz,hr _ pins _ σ H1 Q (I1.tok _) q⟩) hx))
theorem w8 {e1 e2:Expr}{es:List Expr}{pos:Pos}{t:Str->TE}(h:PF X (e1::e2::es) t):PE X (.JoinedStr (e1::e2::es) pos) (A0e t):=fun pins s σ H Q I q=>JoinedStr_many (h _ pins s σ H Q I q)
end
end L2
namespace L2
open PySem PySem.Spec PyProof.Rows PySem.Builtin PySem.Builtin.Str
section
variable {prog:Program}{w:World}{A:Around}{E:Value->Shared->Prop}{s:Shared}{I l:Addr}{items:Array Value}
theorem gY:typeLookup (.type "list_reverseiterator") "__len__"=pure none:=by rw[typeLookup_type,builtinLookup_eq_fast];kernel_rfl
theorem lE:typeLookup (.type "list_reverseiterator") "__length_hint__"=pure (some (.builtin "list_reverseiterator.__length_hint__")):=by rw[typeLookup_type,builtinLookup_eq_fast];kernel_rfl
theorem YF {Q:List Value->Shared->Prop}(hh:A.handled=none) (hne:l≠I) (hit:s.heap.IsRevIter I l ((items.size:Int) - 1)) (hl:s.heap.IsList l items) (hn:items.size<=sizeLine)
   (hQ:∀s',(∀b o,b≠I->s.heap.get? b=some o->s'.heap.get? b=some o)->s'.gens=s.gens->s'.drawn=s.drawn->s'.os=s.os->Q items.toList.reverse s'):wpAny (model prog w) A (collect (.ref I)) Q E s:=by
 have W:=(Walks.listRev (prog:=prog) (w:=w) (A:=A.in1) hh I l hne items).toS
 have st0:0<=items.size/\s.heap.IsRevIter I l ((items.size:Int) - 1 - ((0:Nat):Int))/\s.heap.IsList l items:=⟨xT _,by simpa using hit,hl⟩
 have hT:∀(i:Nat) (r:Shared),(i<=items.size/\r.heap.IsRevIter I l ((items.size:Int) - 1 - (i:Int))/\r.heap.IsList l items)->r.TypeIs (.ref I) "list_reverseiterator" := fun i r x=>x.2.1.typeIs
 have hI:I < s.heap.objs.size:=by obtain⟨o,ho,_⟩:=hit;exact zM ho
 have hl':l < s.heap.objs.size:=by obtain⟨o,ho,_⟩:=hl;exact zM ho
 have hSf:s.heap.objs.size∉[I,l]:=fun hm=>by
   rcases yX.mp hm with e | e
   · exact a5X hI e
   · exact a5X hl' (List.mem_singleton.mp e)
 have hSI:s.heap.objs.size≠I:=a5X hI
 unfold collect
 refine zZ (wpAny_runValue (codeAny_builtin F.entry_proto_collect ?_))
 rw[Around.under_plainId F.plain_proto_collect _]
 show wpAny _ A.in1 (newList [] >>= fun l=>again (.builtin "list.__iadd__" ⟨[l,.ref I],[]⟩)) _ _ s
 refine zZ (xM (zY ⟨plainId_quiet F.plain_list_iadd _,codeAny_builtin F.entry_list_iadd ?_⟩))
 rw[Around.under_plainId F.plain_list_iadd _]
 have st1:=W.frame 0 s (s.heap.push { cls:=.type "list", data:=.seq ([]:List Value).toArray }) s.toks st0 (zR _) fun b _ o e=>zW _ e
 have hS1:(s.heap.push { cls:=.type "list", data:=.seq ([]:List Value).toArray }).get? s.heap.objs.size=some { cls:=.type "list", data:=.seq ([]:List Value).toArray }:=yZ _ rfl
 have h1:Builtin.List.listSameRef (.ref s.heap.objs.size) (.ref I)=false:=by simp[Builtin.List.listSameRef,hSI]
 show wpAny _ A.in1 (b0J (.ref s.heap.objs.size) (.ref I) (.ref s.heap.objs.size)) _ _ _
 unfold b0J
 refine zZ (wpAny_typeOf (hT 0 _ st1) ?_)
 rw[if_neg (by rw[h1];decide)]
 refine zZ (W.self 0 _ _ _ st1 (zZ (wpAny_holding ?_)))
 unfold Builtin.List.listLengthHint
 refine zZ (wpAny_specialOf (hT 0 _ st1) gY ?_)
 show wpAny _ A.in1 (specialOf (a0Z I) (a0Q "__length_hint__") >>= _) _ _ _
 refine zZ (wpAny_specialOf (hT 0 _ st1) lE ?_)
 generalize hid:("list_reverseiterator.__length_hint__":String)=id0
 wp_delta
 rw[show splitId id0=some ("list_reverseiterator", "__length_hint__") from by subst hid;decide +kernel]
 subst hid
 refine zZ (wpAny_isInstance (b:=true) (hT 0 _ st1) (by rw[isSubtype_type];kernel_rfl) (zY ?_))
 rw[if_neg (by decide)]
 refine zY ⟨plainId_quiet F.plain_extend_loop _,codeAny_extend_loopS W hn _ hSf _ items.size 0 _ _ _ rfl (xT _) st1 hS1 (ItemsOf.nil _) fun s' acc' c' hm hS' hacc=>?_⟩
 show wpAny _ A (load s.heap.objs.size >>= _) _ _ s'
 refine zZ (wpAny_load hS' (zY ?_))
 have M:=Moved.drop_new (o:={ cls:=.type "list", data:=.seq ([]:List Value).toArray }) (tk:=s.toks) hm (zR _)
 have e:acc'.toList=items.toList.reverse:=by
   refine b2V fun i=>?_
   by_cases hi:i < items.size
   · have h2:i < acc'.size:=by rw[hacc.1];exact hi
     have:=hacc.2 i _ (a9Z h2)
     rw[List.getElem?_reverse (by simpa using hi)]
     simp only[a0K,a9Q]
     rw[a9Z h2]
     exact this.symm
   · rw[a1Z (by simp[hacc.1];omega),a1Z (by simp;omega)]
 show Q acc'.toList s'
 rw[e]
 exact hQ s' (fun b o hb eo=>M.heap b o (fun h=>hb (List.mem_singleton.mp h)) eo) M.gens M.drawn M.os
end
section
variable {X:Cx}
def R5 (K:Frg) (y:Str) (te:TE):TE:=fun σ H Q=>jF te u0 σ H fun vs H1=>∃(l:Addr) (ys:List Str),vs=[.ref l]/\SqL K H1 l (ys.map V.str)/\(ys.map (·.length)).sum+ys.length*y.length<=16777216/\Q (.str (a7K y ys.reverse)) H1
theorem bH (y:Str):∀m:List (Str×Tok),tooLong ((m.map (·.1)).toArray.foldl (·+·.length+y.length) 0)=false->Gives (joinTail y (strValues m)) (joinMade y m)
 | [],h=>gives_joinTail y [] h
 | [p],h=>gives_joinTail y [p] h
 | p::q::r,h=>gives_joinTail y (p::q::r) h
theorem lG {A:Around}{E:Value->Shared->Prop}{s:Shared}{prog:Program}{w:World}{y:Str}{t:Tok}{I l:Addr}{ys:List Str}{its:List Value}{Q:Value->Shared->Prop}(hh:A.handled=none) (hne:l≠I) (hit:s.heap.IsRevIter I l ((its.toArray.size:Int) - 1)) (hl:s.heap.IsList l its.toArray) (hs:StrsAre its ys)
   (hz:(ys.map (·.length)).sum+ys.length*y.length<=16777216) (hn:its.length<=sizeLine)
   (hQ:∀(s':Shared) (t':Tok) (k:Nat),(∀b o,b≠I->s.heap.get? b=some o->s'.heap.get? b=some o)->s'.gens=s.gens->s'.drawn=s.drawn->s'.os=s.os->Q (.str (a7K y ys.reverse) t') { s' with toks:=k }) :
   wpAny (model prog w) A (call (.builtin "str.join") [.str y t,.ref I]) Q E s:=by
 refine wpAny_call (codeAny_call_builtin F.slot_str_join.plain F.entry_str_join (F.slot_str_join.check _ _ _ _ _ _ _ _ (typeIs_str _ _ _) (F.args_str_join_2 _ _) ?_))
 rw[join_tree_other]
 refine zZ (wpAny_typeOf hit.typeIs ?_)
 show wpAny _ A.in1 ((pyIter (.ref I)).tryCatch _ >>= fun it=>collect it >>= fun items=>joinTail y items) _ _ s
 refine zZ (wpAny_tryCatch (wpAny_pyIter_revIter hit ?_))
 refine zZ (YF hh hne hit hl (by simpa using hn) fun s' k1 k2 k3 k4=>?_)
 obtain⟨l0,hv,ht⟩:=strsAre_values hs
 have e:its.toArray.toList.reverse=strValues l0.reverse:=by
   show its.reverse=_
   rw[hv];unfold strValues;rw[List.map_reverse]
 have e2:l0.reverse.map (·.1)=ys.reverse:=by rw[List.map_reverse,ht]
 rw[e]
 have hok:JoinOk y (l0.reverse.map (·.1))=true:=joinOk_of (by rw[e2,List.map_reverse,List.sum_reverse,List.length_reverse];exact hz)
 unfold JoinOk at hok
 rw[c1W] at hok
 have g:=bH y l0.reverse hok
 exact g prog w A (wants Q E) s' (post_join _ ⟨joinFit_length hok,fun t' k=>by rw[e2];exact hQ s' t' k k1 k2 k3 k4⟩)
theorem bI {y:Str}{j:Nat}{e:Expr}{x:Str}{te:TE}{cp ap np rp pos:Pos}(he:PE X e te) (hh:X.A.handled=none) (hg:Gl X x) (hm:X.mg x=none) (hv:bootBuiltins x=some (.type "reversed"))
   (hn:x ≠ "__name__" := by decide) (hdb:(x==("__debug__":Str))=false:=by decide)
   (hbase:attributeBase (.Constant (.str y) j cp) "join" X.env (eval (.Constant (.str y) j cp) X.env)=eval (.Constant (.str y) j cp) X.env:=by rfl)
   (hfew:((backTo pos (starEach [.Call (.Name x np) [e] [] rp] X.env)).all (fun x=>!x.1)&&(backToKw pos (keywordEach [] X.env)).all (fun x=>x.1.isSome)
     && decide ([Expr.Call (.Name x np) [e] [] rp].length+([]:List Keyword).length+(if ([]:List Keyword).isEmpty then 0 else 1) < 30))=true:=by rfl)
   (hline:(ap.endLine==pos.line)=true:=by rfl) (hs:starEach [.Call (.Name x np) [e] [] rp] X.env=[(false,eval (.Call (.Name x np) [e] [] rp) X.env)]:=by rfl)
   (he1:starEach [e] X.env=[(false,eval e X.env)]:=by rfl) :
   PE X (.Call (.Attribute (.Constant (.str y) j cp) "join" ap) [.Call (.Name x np) [e] [] rp] [] pos) (R5 X.K y te):=by
 intro pins s σ H Q I h
 refine wpAny_Call_method_late hbase hfew hline rfl (Calls.Constant_str ?_)
 refine⟨"str", "str.join", a1Q,a6Z,a6X,typeIs_str _ _ _,?_⟩
 refine⟨(fun a e=>nomatch e),?_⟩
 rw[hs]
 refine b1X rfl (b3Z ?_)
 show wpAny _ _ (spliced ((false,eval (.Call (.Name x np) [e] [] rp) X.env)::backTo pos (starEach [] X.env))) _ _ _
 refine xP ?_
 have I1:Inv X pins σ H { s with toks:=s.toks+1 }:=I.tok _
 refine wpAny_Call_Name_kw (GL I1 hg hm hv ?_ hn hdb)
 refine xH (thn ((CH he FO he1) rp pins _ σ H (fun vs H2=>∃(l:Addr) (ys:List Str),vs=[.ref l]/\SqL X.K H2 l (ys.map V.str)/\(ys.map (·.length)).sum+ys.length*y.length<=16777216/\Q (.str (a7K y ys.reverse)) H2) I1 ?_) fun us s2 ⟨vs,H2,I2,r2,l,ys,evs,hl,hz,q⟩=>?_) he1 rfl
 · exact h
 subst evs
 obtain⟨u,rfl,ru⟩:=D0 r2
 cases ru
 obtain⟨its,rv,pl,hsz⟩:=I2.list hl
 refine call_reversed_list pl.isList ?_
 show wpAny _ _ (spliced []) _ _ _
 refine zY ?_
 have hlt:l < s2.heap.objs.size:=by obtain⟨o,ho,_⟩:=pl.isList;exact zM ho
 have hle:its.length<=sizeLine:=by rw[← rv.length];exact hsz
 refine lG (l:=l) (its:=its) (ys:=ys) hh (zC hlt) ⟨_,yZ _ rfl,rfl,rfl⟩ (pl.isList.at fun o eo=>zW _ eo) (PZ rv) hz hle fun s' t' k k1 k2 k3 k4=>?_
 refine⟨.str _,H2,?_,⟨_,rfl⟩,q⟩
 obtain⟨h',g',d',tk',os'⟩:=s'
 cases k2
 cases k3
 cases k4
 exact I2.kept fun b u eb=>k1 b u (zC (zM eb)) (zW _ eb)
end
end L2
namespace L2
open PySem PySem.Spec PyProof.Rows
def Ite (K:Frg) (l:Addr):It:=
 ⟨fun i H=>∃xs,SqL K H l xs/\i < xs.length,
  fun i H x H'=>∃p a,H p=none/\x = .ref p/\H'=upd H p (.tup [.int (i:Nat),a])/\∀xs,SqL K H l xs->xs[i]?=some a,
  fun i H=>∃xs,SqL K H l xs/\xs.length<=i⟩
theorem gZ {P:Program}{w:World}{K:Frg}{elts:List Expr}{kk:Nat}{tpos:Pos}(e it l:Addr) (d1:e≠it) :
   Turn P w K (.Tuple elts kk tpos) (Ite K l) [e,it] e (fun i h=>(∃old,IsEnum h e it (i:Nat) old)/\h.IsListIter it l i) where
 mem:=by simp
 obj:=fun i h ⟨⟨old,a1⟩,a2⟩ b hb=>by
   simp only[yX,xX,or_false] at hb
   rcases hb with rfl | rfl
   · exact⟨_,a1,fun v q=>by cases q⟩
   · obtain⟨o,q,c,d⟩:=a2;exact⟨o,q,fun v z=>by rw[d] at z;cases z⟩
 keep:=fun i h h' ⟨⟨old,a1⟩,a2⟩ k=>⟨⟨old,k e (by simp) _ a1⟩,a2.at fun o q=>k it (by simp) o q⟩
 item:=by
   intro X hP hw hK hc i pins s σ H E I hf ⟨⟨old,a1⟩,a2⟩ hg
   subst hP hw hK
   obtain⟨xs,hx,lx⟩:=hg
   obtain⟨its,rx,px,_⟩:=I.list hx
   obtain⟨u,hu,ru⟩:=rx.get (zV lx)
   have hle:l≠e:=DU I (hf e (by simp)) hx
   have hli:l≠it:=DU I (hf it (by simp)) hx
   refine wpAny_pyNext_enum_item a1 a2 px.isList (x:=u) (by simpa using hu) d1 fun h' b1 b2 b3 b4 hk=>?_
   refine⟨_,rfl,wpAny_letOwnedTupleGo_enum (s:={ s with heap:=h',toks:=s.toks+1 }) b1 fun h2 c1 sb=>?_⟩
   have lt:∀{c o},s.heap.get? c=some o->s.heap.objs.size≠c:=fun q=>a5X (zM q)
   have keep:∀b o,b∉[e,it]->s.heap.get? b=some o->h2.get? b=some o:=fun b o hb q=>by
     simp only[yX,xX,or_false,not_or] at hb
     exact sb.extBut b o hb.1 (hk b o hb.1 hb.2 q)
   have hTe:s.heap.objs.size≠e:=lt a1
   have I1:Inv X pins σ (upd H s.heap.objs.size (.tup [.int (i:Nat),xs[i]])) { s with heap:=h2,toks:=s.toks+1 }:=I.turnedT (t':=s.toks+1) (ch:=[e,it]) keep (fun b hb=>(hf b hb).1)
     (fun b hb=>let q:=hf b hb;⟨q.2.2.2.1,q.2.1,q.2.2.2.2.1,q.2.2.2.2.2⟩) (zR _)
     ⟨by show 2<=sizeLine;decide,[.int (i:Nat) s.toks,u],.cons ⟨_,rfl⟩ (.cons ru .nil),⟨_,sb.extBut _ _ hTe b3,rfl,_,rfl⟩⟩
   refine⟨.ref s.heap.objs.size,_,I1,rfl,⟨s.heap.objs.size,xs[i],I.hok.fresh (zR _),rfl,rfl,fun xs' hx'=>?_⟩,⟨⟨_,c1⟩,b2.extBut sb.extBut (b5Q d1)⟩,fun b hb=>?_⟩
   · rw[I.list_inj hx' hx]
     exact zV lx
   · have hlt:s.heap.objs.size≠b:=by
       simp only[yX,xX,or_false] at hb
       rcases hb with rfl | rfl
       · exact lt a1
       · obtain⟨o,q,_⟩:=a2;exact lt q
     rw[AN (b5Q hlt)]
     exact(hf b hb).1
 done:=by
   intro X hP hw hK hc i pins s σ H E I hf ⟨⟨old,a1⟩,a2⟩ hg
   subst hP hw hK
   obtain⟨xs,hx,hend⟩:=hg
   obtain⟨its,rx,px,_⟩:=I.list hx
   have e1:=rx.length
   refine wpAny_pyNext_enum_end (I.ok.hd hc) a1 a2 px.isList (by rw[b6Z];simp;omega) fun h' hk=>⟨rfl,I.turnedL (t':=s.toks) (ch:=[e,it]) (fun b o hb q=>?_) (fun b hb=>(hf b hb).1) fun b hb=>let q:=hf b hb;⟨q.2.2.2.1,q.2.1,q.2.2.2.2.1,q.2.2.2.2.2⟩⟩
   simp only[yX,xX,or_false,not_or] at hb
   exact hk b o hb.2 q
 self:=fun _ _ _ _ _ st h=>let ⟨_,q⟩:=st.1;wpAny_pyIter_enum q h
section
variable {X:Cx}{K:Frg}
def lH (K:Frg) (ta:TA):TI:=fun σ H R=>ta σ H fun vs H1=>∃a,vs=[.ref a]/\(∃xs,SqL K H1 a xs)/\R (Ite K a) H1
theorem pW {a:Expr}{ta:TA}{p pos:Pos}{elts:List Expr}{kk:Nat}{tpos:Pos}(hg:Gl X "enumerate") (hm:X.mg "enumerate"=none) (ha:PA X [a] ta) (hs:starEach [a] X.env=[(false,eval a X.env)]:=by rfl) :
   PI X (.Tuple elts kk tpos) (.Call (.Name "enumerate" p) [a] [] pos) (lH X.K ta):=by
 intro pins s σ H R I h
 refine Call_ (GL I hg hm boot_enumerate (xH (thn (ha pos pins s σ H _ I h) fun us s1 ⟨vs,H1,I1,r1,q1⟩=>?_) hs rfl))
 obtain⟨l,e,⟨xs,hx⟩,q⟩:=q1
 subst e
 obtain⟨u,rfl,ru⟩:=D0 r1
 cases ru
 obtain⟨its,rx,px,_⟩:=I1.list hx
 refine call_enumerate_list px.isList fun h' b1 b2 b3 hk=>?_
 refine wpAny_pyIter_enum (s:={ s1 with heap:=h' }) b1 ?_
 refine⟨s1.heap.objs.size+1,[s1.heap.objs.size+1,s1.heap.objs.size],_,_,H1,rfl,I1.kept (t':=s1.toks) hk,gZ (s1.heap.objs.size+1) s1.heap.objs.size l (Nat.succ_ne_self _),⟨⟨_,b1⟩,b2⟩,fun b hb=>?_,q⟩
 have hle:s1.heap.objs.size<=b:=by
   simp only[yX,xX,or_false] at hb
   rcases hb with rfl | rfl
   · exact a2Q _ _
   · exact zR _
 exact I1.fpOk hle (I1.hok.fresh hle)
theorem sU {a:Expr}{ta:TA}{p pos:Pos}{elts:List Expr}{kk:Nat}{tpos:Pos}(h:X.K=K) (hg:Gl X "enumerate") (hm:X.mg "enumerate"=none) (ha:PA X [a] ta) (hs:starEach [a] X.env=[(false,eval a X.env)]:=by rfl) :
   PI X (.Tuple elts kk tpos) (.Call (.Name "enumerate" p) [a] [] pos) (lH K ta):=h▸pW hg hm ha hs
end
end L2
namespace DL
open PySem PySem.Spec L2
section
variable {K:Frg}{M:Own}{ρ:List (Option DS)}{QI:List PyData->Own->Prop}
def D5 (as:List PyData):List PyData:=as.zipIdx.map fun p=>.tuple [.int (p.2:Nat),p.1]
theorem dW {ta:TA}(h:DA K ta ρ M fun xs M1=>∃as,xs=[.d (.list as)]/\QI (D5 as) M1):DI K (lH K ta) ρ M QI:=fun σ H R Rl k=>
 h σ H _ Rl fun vs H1 xs M1 o1 s1 t1 ⟨as,e,q⟩=>by
   subst e
   obtain⟨v,r,rfl,h1,h3⟩:=s1
   cases h3
   unfold SI DV at h1
   obtain⟨a,va,rfl,hl,hd⟩:=h1
   have hlen:(D5 as).length=as.length:=by unfold D5;rw[zX,b5Z]
   refine⟨a,rfl,⟨va,hl.sq⟩,k _ (D5 as) H1 M1 o1 t1 ⟨fun i H' M' hi oa st=>?_,fun H' M' oa st=>?_,fun i H' M' x H2 oa st hi y=>?_⟩ q⟩
   · rw[hlen] at hi
     exact⟨va,(hl.grow st.grow).sq,by rw[hd.length];omega⟩
   · refine⟨va,(hl.grow st.grow).sq,?_⟩
     rw[hlen,hd.length];omega
   · obtain⟨p,xa,hp,rfl,rfl,hy⟩:=y
     have e1:=hy va (hl.grow st.grow).sq
     obtain⟨da,f1,f2⟩:=hd.get e1
     have gg:Grow K M'.W M'.W H' (upd H' p (.tup [.int (i:Nat),xa])):=AU _ hp
     refine⟨oa.new hp,⟨gg⟩,.tuple [.int (i:Nat),da],?_,?_⟩
     · unfold D5
       rw[zF,b7W,f1]
       simp
     · unfold DV
       exact⟨p,_,rfl,.inl ⟨fun w=>w (oa.none hp),.inl AH⟩,DVs.cons (by unfold DV;rfl) (DVs.cons ((f2.grow st.grow).grow gg) DVs.nil)⟩
end
end DL
namespace DL
open PySem PySem.Spec L2 PySem.Builtin.Str
section
variable {X:Cx}{K:Frg}
theorem bJ (_:X.K=K):MtR X "str.split" bD:=lA
theorem R6 (_:X.K=K):MtR X "str.partition" bE:=lB
theorem w9 (_:X.K=K):MtR X "str.index" bF:=lC
theorem YG {y:Str}{j:Nat}{e:Expr}{x:Str}{te:TE}{cp ap np rp pos:Pos}(h:X.K=K) (he:PE X e te) (hh:X.A.handled=none) (hg:Gl X x) (hm:X.mg x=none) (hv:bootBuiltins x=some (.type "reversed"))
   (hn:x ≠ "__name__" := by decide) (hdb:(x==("__debug__":Str))=false:=by decide)
   (hbase:attributeBase (.Constant (.str y) j cp) "join" X.env (eval (.Constant (.str y) j cp) X.env)=eval (.Constant (.str y) j cp) X.env:=by rfl)
   (hfew:((backTo pos (starEach [.Call (.Name x np) [e] [] rp] X.env)).all (fun x=>!x.1)&&(backToKw pos (keywordEach [] X.env)).all (fun x=>x.1.isSome)
     && decide ([Expr.Call (.Name x np) [e] [] rp].length+([]:List Keyword).length+(if ([]:List Keyword).isEmpty then 0 else 1) < 30))=true:=by rfl)
   (hline:(ap.endLine==pos.line)=true:=by rfl) (hs:starEach [.Call (.Name x np) [e] [] rp] X.env=[(false,eval (.Call (.Name x np) [e] [] rp) X.env)]:=by rfl)
   (he1:starEach [e] X.env=[(false,eval e X.env)]:=by rfl) :
   PE X (.Call (.Attribute (.Constant (.str y) j cp) "join" ap) [.Call (.Name x np) [e] [] rp] [] pos) (R5 K y te):=h▸bI he hh hg hm hv hn hdb hbase hfew hline hs he1
end
section
variable {K:Frg}{ρ:List (Option DS)}{M:Own}{Q:DS->Own->Prop}{te:TE}{tc:TT}{D:EndsD}
theorem R7 {x y:Str}(hy:(y.length==0)=false) (hx:x.length+2<=sizeLine) (q:Q (.d (.list ((a3V x y).map .str))) M):DM K bD (.d (.str x)) [.d (.str y)] M Q:=fun H v vs QQ oa s1 s2 k=>by
 obtain⟨u,r,rfl,h1,h2⟩:=s2
 cases h2
 rw[AO s1,AO h1]
 refine⟨x,y,rfl,rfl,hy,hx,fun p hp=>?_⟩
 have g:Grow K M.W M.W H (upd H p (.lst ((a3V x y).map V.str))):=AU _ hp
 refine k _ _ (.d (.list ((a3V x y).map .str))) M (oa.new hp) ?_ ⟨g⟩ q
 unfold SI DV
 exact⟨p,_,rfl,.inl ⟨fun w=>w (oa.none hp),.inl AH⟩,J8⟩
theorem R8 {x y:Str}(hy:(y.length==0)=false) (hx:x.length<=sizeLine) (q:Q (.d (.tuple [.str (a0J x y).1,.str (a0J x y).2.1,.str (a0J x y).2.2])) M):DM K bE (.d (.str x)) [.d (.str y)] M Q:=fun H v vs QQ oa s1 s2 k=>by
 obtain⟨u,r,rfl,h1,h2⟩:=s2
 cases h2
 rw[AO s1,AO h1]
 refine⟨x,y,rfl,rfl,hy,hx,fun p hp=>?_⟩
 have g:Grow K M.W M.W H (upd H p (.tup [.str (a0J x y).1,.str (a0J x y).2.1,.str (a0J x y).2.2])):=AU _ hp
 refine k _ _ (.d (.tuple [.str (a0J x y).1,.str (a0J x y).2.1,.str (a0J x y).2.2])) M (oa.new hp) ?_ ⟨g⟩ q
 unfold SI DV
 exact⟨p,_,rfl,.inl ⟨fun w=>w (oa.none hp),.inl AH⟩,DVs.cons (by unfold DV;rfl) (DVs.cons (by unfold DV;rfl) (DVs.cons (by unfold DV;rfl) DVs.nil))⟩
theorem lI {x y:Str}{i:Nat}{r:List Nat}(ho:occurrences x y 0 x.length 1=i::r) (q:Q (.d (.int i)) M):DM K bF (.d (.str x)) [.d (.str y)] M Q:=fun H v vs QQ oa s1 s2 k=>by
 obtain⟨u,r',rfl,h1,h2⟩:=s2
 cases h2
 rw[AO s1,AO h1]
 exact⟨x,y,i,r,rfl,rfl,ho,k _ H _ M oa BJ Step.refl q⟩
theorem wA {i j:Str}(q:Q (.d (.bool (!decide (j.cps.toList < i.cps.toList)))) M):D2 K A0a (.d (.str i)) (.d (.str j)) M Q:=fun H v u QQ oa s1 s2 k=>by
 rw[AO s1,AO s2]
 exact .inr ⟨i,j,rfl,rfl,k _ H _ M oa AJ Step.refl q⟩
def DF (K:Frg) (t:Str->TE) (out:Str) (ρ:List (Option DS)) (M:Own) (Q:DS->Own->Prop):Prop:=DE K (t out) ρ M Q
theorem wB {t:Str->TE}(h:DF K t Str.empty ρ M Q):DE K (A0e t) ρ M Q:=h
theorem wC {out:Str}(hz:out.length<=sizeLine) (q:Q (.d (.str out)) M):DF K A0b out ρ M Q:=fun σ H QQ R k=>⟨hz,k _ H _ M R.own BW Step.refl q⟩
theorem lJ {out x:Str}{t:Str->TE}(hz:(out++x).length<=sizeLine) (h:DF K t (out++x) ρ M Q):DF K (A0c x t) out ρ M Q:=fun σ H QQ R k=>⟨hz,h σ H QQ R k⟩
theorem wE {out:Str}{t:Str->TE}(h:DE K te ρ M fun v M1=>∃x,v = .d (.str x)/\x.length<=sizeLine/\(out++x).length<=sizeLine/\DF K t (out++x) ρ M1 Q):DF K (A0d te t) out ρ M Q:=fun σ H QQ R k=>
 h σ H _ R fun v H1 x M1 o1 s1 t1 ⟨z,e,h1,h2,h3⟩=>by
   subst e
   rw[AO s1]
   exact⟨z,rfl,h1,h2,h3 σ H1 QQ (R.step o1 t1) fun v' H' x' M' a b c d=>k v' H' x' M' a b (t1.trans c) d⟩
theorem OJ {y:Str}(h:DE K te ρ M fun v M1=>∃(a:Addr) (ys:List Str),v = .loc a/\M1 a=some (.l (ys.map .str))/\(ys.map (·.length)).sum+ys.length*y.length<=16777216/\Q (.d (.str (a7K y ys.reverse))) M1):DE K (R5 K y te) ρ M Q:=fun σ H QQ R k=>
 h σ H _ R fun v H1 x M1 o1 s1 t1 ⟨a,ys,e,m,hz,q⟩=>by
   subst e
   unfold SI at s1
   subst s1
   obtain⟨vs,e,hd⟩:=o1 a _ m
   rw[J7 hd] at e
   exact⟨a,ys,rfl,.inl (.inl e),hz,k _ H1 _ M1 o1 BW t1 q⟩
theorem UJ (h:DT K tc ρ M fun c M1=>c=false/\D.nx ρ M1):DSt K (j7 tc aF) ρ M D:=fun σ H E R k1 k2 k3 k4=>by
 refine⟨fun _ σ' H'=>σ'=σ/\H'=H,⟨0,rfl,rfl⟩,?_⟩
 rintro m σ' H' ⟨rfl,rfl⟩
 refine h _ _ _ R fun c H1 M1 o1 t1 ⟨e,q⟩=>?_
 subst e
 rw[if_neg nft]
 exact k1 ρ M1 _ H1 (R.step o1 t1) t1 q
end
end DL
namespace DL
open PySem PySem.Spec L2 PySem.Builtin.Str PySem.StrLaws
theorem AY (a b:Str):(a++b).cps.toList=a.cps.toList++b.cps.toList:=by
 show(a.cps++b.cps).toList=_
 simp
theorem CP (x:Str) (i j:Nat):(strSub x i j).cps.toList=(x.cps.toList.drop i).take (j - i):=by
 show(x.cps.extract i j).toList=_
 rw[Array.toList_extract,List.extract_eq_take_drop]
theorem W0 {x:Str}{a b i:Nat}:At x ⟨#[a,b]⟩ x.length i↔x.cps.toList[i]?=some a/\x.cps.toList[i+1]?=some b:=by
 have hl:x.length=x.cps.toList.length:=by show x.cps.size=_;simp
 unfold At subAt
 show i+2<=x.length/\(x.cps.extract i (i+2)==#[a,b])=true↔_
 rw[beq_iff_eq,← Array.toList_inj,Array.toList_extract,hl]
 generalize x.cps.toList=l
 simp only[List.extract_eq_take_drop,a4Z]
 constructor
 · rintro⟨h1,h2⟩
   have e0:((l.drop i).take 2)[0]?=some a:=by rw[h2];rfl
   have e1:((l.drop i).take 2)[1]?=some b:=by rw[h2];rfl
   rw[List.getElem?_take_of_lt (by omega),List.getElem?_drop] at e0 e1
   exact⟨by simpa using e0,e1⟩
 · rintro⟨h1,h2⟩
   obtain⟨l1,e1⟩:=yT.mp h1
   obtain⟨l2,e2⟩:=yT.mp h2
   refine⟨by omega,?_⟩
   rw[c0K l1,c0K l2,e1,e2]
   rfl
def IR:List (List Nat)->List Nat
 | []=>[]
 | [p]=>p
 | p::q::r=>p++[44,32]++IR (q::r)
theorem YH {x:Str}:∀(ps:List (List Nat)) (pre:List Nat) (cuts:List Nat) (f:Nat),ps≠[]->x.cps.toList=pre++IR ps->(∀p∈ps,44∉p) ->
   ChainG x ⟨#[44,32]⟩ x.length pre.length cuts f->(∀k,f<=k->¬At x ⟨#[44,32]⟩ x.length k)->(partsFrom x 2 pre.length cuts).map (·.cps.toList)=ps
 | [],_,_,_,h,_,_,_,_=>absurd rfl h
 | [p],pre,[],f,_,hx,hp,hc,hn=>by
   show [(strSub x pre.length x.length).cps.toList]=[p]
   rw[CP,hx]
   have hl:x.length=(pre++p).length:=by show x.cps.size=_;rw[← a0K,hx];rfl
   show [((pre++p).drop pre.length).take (x.length - pre.length)]=[p]
   rw[b6J,hl,yY,a4Z,a2K]
 | [p],pre,c::r,f,_,hx,hp,hc,hn=>by
   obtain⟨h1,h2,_⟩:=hc
   have:=(W0.mp h2).1
   rw[hx] at this
   rw[yP h1] at this
   exact absurd (yN this) (hp p (by simp))
 | p::q::r,pre,cuts,f,_,hx,hp,hc,hn=>by
   have hx':x.cps.toList=pre++(p++([44,32]++IR (q::r))):=by rw[hx];show pre++(p++[44,32]++IR (q::r))=_;rw[a8Q]
   have hA:At x ⟨#[44,32]⟩ x.length (pre.length+p.length):=by
     rw[W0,hx']
     constructor
     · rw[yP (by omega),yP (by omega)]
       simp
     · rw[yP (by omega),yP (by omega)]
       rw[show pre.length+p.length+1 - pre.length - p.length=1 by omega]
       rfl
   cases cuts with
   | nil=>
     have e:f=pre.length:=hc
     exact absurd hA (hn _ (by omega))
   | cons c cs=>
     obtain⟨h1,h2,h3,h4⟩:=hc
     have hle:c<=pre.length+p.length:=a7X fun h=>h3 _ (a2Q _ _) h hA
     have hce:c=pre.length+p.length:=by
       refine Nat.le_antisymm hle (a7X fun hlt=>?_)
       have:=(W0.mp h2).1
       rw[hx',yP h1,yQ (by omega)] at this
       exact hp p (by simp) (yN this)
     subst hce
     show(strSub x pre.length (pre.length+p.length)).cps.toList::(partsFrom x 2 (pre.length+p.length+2) cs).map (·.cps.toList)=_
     have e2:pre.length+p.length+2=(pre++p++[44,32]).length:=by simp only[yY,yR,a8X]
     rw[e2,YH (q::r) (pre++p++[44,32]) cs f (by simp) (by rw[hx'];simp[a8Q]) (fun z hz=>hp z (yV _ hz)) (e2▸h4) hn,CP,hx',b6J,a4Z,List.take_left]
theorem KK:∀ps:List Str,(b4Z ⟨#[44,32]⟩ ps).cps.toList=IR (ps.map (·.cps.toList))
 | []=>rfl
 | [p]=>rfl
 | p::q::r=>by
   show(p++⟨#[44,32]⟩++b4Z ⟨#[44,32]⟩ (q::r)).cps.toList=p.cps.toList++[44,32]++IR ((q::r).map (·.cps.toList))
   rw[AY,AY,KK (q::r)]
theorem bK {ps:List Str}(hne:ps≠[]) (hp:∀p∈ps,∀c∈p.cps.toList,c < 128/\c≠44):a3V (a7K ⟨#[44,32]⟩ ps) ⟨#[44,32]⟩=ps:=by
 have hj:a7K ⟨#[44,32]⟩ ps=b4Z ⟨#[44,32]⟩ ps:=glued_eq_join _ _
 rw[hj]
 generalize hx:b4Z ⟨#[44,32]⟩ ps=x
 have hxl:x.cps.toList=[]++IR (ps.map (·.cps.toList)):=by rw[← hx,KK];rfl
 obtain⟨f,hG,hn⟩:=occ_tight x ⟨#[44,32]⟩ (by show 1<=2;decide)
 have key:=YH (x:=x) (ps.map (·.cps.toList)) [] _ f (by simpa using hne) hxl (fun p hp'=>by
   obtain⟨q,hq,rfl⟩:=zL.mp hp'
   exact fun h=>(hp q hq _ h).2 rfl) hG hn
 have fin:partsFrom x 2 0 (occurrences x ⟨#[44,32]⟩ 0 x.length (x.length+1))=ps:=by
   have:=key
   exact(List.map_inj_right (fun _ _ h=>C7 h)).mp this
 have whole:occurrences x ⟨#[44,32]⟩ 0 x.length (x.length+1)=[]->[x]=ps:=fun e0=>by
   rw[e0] at fin
   rw[← fin]
   show [x]=[strSub x 0 x.length]
   have:x=strSub x 0 x.length:=C7 (by
     rw[CP,b1Z,Nat.sub_zero,show x.length=x.cps.toList.length by show x.cps.size=_;simp,a2K])
   rw[← this]
 unfold a3V
 split
 · rename_i hc
   refine whole ?_
   have hk:a3W ⟨#[44,32]⟩=1:=by decide +kernel
   have hs:1<=a3W x:=by unfold a3W;split;exact zR _;split <;> decide
   have hlen:x.length < 2:=by
     rcases Bool.or_eq_true_iff.mp hc with h | h
     · exact of_decide_eq_true h
     · have:=of_decide_eq_true h;omega
   cases hcut:occurrences x ⟨#[44,32]⟩ 0 x.length (x.length+1) with
   | nil=>rfl
   | cons c r=>
     rw[hcut] at hG
     have h2:c+2<=x.length:=hG.2.1.1
     omega
 · split
   · rename_i he
     exact whole (List.isEmpty_iff.mp he)
   · rw[partsBetween_eq];exact fin
theorem dX {x:Str}{a b:List Nat}{c:Nat}(hx:x.cps.toList=a++c::b) (ha:c∉a):a0J x ⟨#[c]⟩=(⟨⟨a⟩⟩,⟨#[c]⟩,⟨⟨b⟩⟩):=by
 have hl:x.length=a.length+1+b.length:=by show x.cps.size=_;rw[← a0K,hx];simp;omega
 have hA:∀i,At x ⟨#[c]⟩ x.length i↔x.cps.toList[i]?=some c:=fun i=>subAt_one x c i
 rcases occ_head x ⟨#[c]⟩ 1 (zR _) with ⟨_,h⟩ | ⟨i,r,e,h1,h2⟩
 · exact absurd ((hA a.length).mpr (by rw[hx];simp)) (h _)
 · have hi:i=a.length:=by
     refine Nat.le_antisymm (a7X fun h=>h2 _ h ((hA a.length).mpr (by rw[hx];simp))) (a7X fun h=>?_)
     have:=(hA i).mp h1
     rw[hx,yQ h] at this
     exact ha (yN this)
   subst hi
   unfold a0J
   rw[e]
   show(strSub x 0 a.length,(⟨#[c]⟩:Str),strSub x (a.length+1) x.length)=_
   have e1:strSub x 0 a.length=⟨⟨a⟩⟩:=C7 (by rw[CP,hx,b1Z,Nat.sub_zero,List.take_left])
   have e2:strSub x (a.length+1) x.length=⟨⟨b⟩⟩:=C7 (by
     rw[CP,hx,hl,show a++c::b=(a++[c])++b by simp,show a.length+1=(a++[c]).length by simp,b6J,a4Z,a2K])
   rw[e1,e2]
def B7 (n:Nat):List Nat:=(Nat.toDigits 10 n).map Char.toNat
theorem dY {n:Nat}(h:n < 10):B7 n=[48+n]:=by
 unfold B7
 rw[Nat.toDigits_of_lt_base h]
 show [(Nat.digitChar n).toNat]=_
 rw[Nat.toNat_digitChar_of_lt_ten h]
theorem pX {n:Nat}(h:10<=n):B7 n=B7 (n/10)++[48+n % 10]:=by
 unfold B7
 rw[Nat.toDigits_of_base_le (by decide) h,xI]
 show _++[(Nat.digitChar (n % 10)).toNat]=_
 rw[Nat.toNat_digitChar_of_lt_ten (Nat.mod_lt _ (by decide))]
def R9 (l:List Nat) (a:Int):Int:=l.foldl (fun a c=>a*10+((c - 48:Nat):Int)) a
theorem GY (n:Nat):(∀c∈B7 n,48<=c/\c<=57)/\B7 n≠[]/\R9 (B7 n) 0=n/\(∀r,B7 n=48::r->n=0)/\(∀k,n < 10 ^ (k+1)->(B7 n).length<=k+1):=by
 induction n using Nat.strongRecOn with
 | ind n ih=>
   by_cases h:n < 10
   · rw[dY h]
     refine⟨fun c hc=>?_,by simp,?_,fun r e=>?_,fun k _=>by simp⟩
     · have:c=48+n:=by simpa using hc
       omega
     · show(0:Int)*10+((48+n - 48:Nat):Int)=n
       omega
     · injection e with e1 e2;omega
   · have h10:10<=n:=by omega
     obtain⟨i1,i2,i3,i4,i5⟩:=ih (n/10) (by omega)
     rw[pX h10]
     refine⟨fun c hc=>?_,by simp,?_,fun r e=>?_,fun k hk=>?_⟩
     · rcases yW.mp hc with q | q
       · exact i1 c q
       · have:c=48+n % 10:=by simpa using q
         omega
     · unfold R9 at i3 ⊢
       rw[List.foldl_append,i3]
       show((n/10:Nat):Int)*10+((48+n % 10 - 48:Nat):Int)=n
       omega
     · cases hd:B7 (n/10) with
       | nil=>exact absurd hd i2
       | cons y ys=>
         rw[hd] at e
         injection e with e1 e2
         have:=i4 ys (by rw[hd,e1])
         omega
     · cases k with
       | zero=>omega
       | succ k=>
         have:=i5 k (by rw[Nat.div_lt_iff_lt_mul (by decide)];rw[← Nat.pow_succ];exact hk)
         rw[yY]
         simp only[yR,a8X]
         omega
def AI (n:Int):Str:=a0Q (toString n)
theorem RA (cs:List Char):(a0Q (String.ofList cs)).cps.toList=cs.map Char.toNat:=by
 rw[PySem.W.Fast.ofString_ofList]
theorem RB (n:Nat):(AI n).cps.toList=B7 n:=by
 unfold AI
 show(a0Q (toString n)).cps.toList=_
 rw[Nat.toString_eq_ofList_toDigits,RA]
 rfl
theorem YI (m:Nat):AI (-((m:Int)+1))=a0Q "-" ++ AI ((m:Int)+1):=by
 refine C7 ?_
 rw[AY,show((m:Int)+1)=((m+1:Nat):Int) from rfl,RB]
 unfold AI
 show(a0Q (toString (Int.negSucc m))).cps.toList=_
 show(a0Q ("-" ++ toString (m+1))).cps.toList=_
 rw[show("-" ++ toString (m+1):String)=String.ofList ('-'::Nat.toDigits 10 (m+1)) by rw[Nat.toString_eq_ofList_toDigits,show("-":String)=String.ofList ['-'] by decide +kernel,← String.ofList_append];rfl,RA]
 rfl
end DL
namespace DL
open PySem PySem.Spec L2 PySem.Builtin.Str PySem.StrLaws
def big (n:Int):Prop:=-1000000000000000000 < n/\n < 1000000000000000000
theorem KL (n:Int) (h:big n):∃m:Nat,m < 10 ^ 18/\((0<=n/\n=m/\(AI n).cps.toList=B7 m)∨(n < 0/\n = -(m:Int)/\0 < m/\(AI n).cps.toList=45::B7 m)):=by
 obtain⟨h1,h2⟩:=h
 by_cases hn:0<=n
 · obtain⟨m,rfl⟩:=Int.eq_ofNat_of_zero_le hn
   exact⟨m,by omega,.inl ⟨hn,rfl,RB m⟩⟩
 · obtain⟨m,hm⟩:∃m:Nat,n = -((m:Int)+1):=⟨(-n - 1).toNat,by omega⟩
   subst hm
   refine⟨m+1,by omega,.inr ⟨by omega,by omega,by omega,?_⟩⟩
   rw[YI,AY,show((m:Int)+1)=((m+1:Nat):Int) from rfl,RB]
   rfl
theorem B1 {n:Int}(h:big n):(∀c∈(AI n).cps.toList,c=45∨(48<=c/\c<=57))/\(AI n).length<=19:=by
 obtain⟨m,hm,⟨_,_,e⟩ | ⟨_,_,_,e⟩⟩:=KL n h
 all_goals
   obtain⟨d1,d2,d3,d4,d5⟩:=GY m
   have hl:=d5 17 hm
   have el:(AI n).length=(AI n).cps.toList.length:=by show(AI n).cps.size=_;simp
   rw[el,e]
 · exact⟨fun c hc=>.inr (d1 c hc),by omega⟩
 · refine⟨fun c hc=>?_,by simp only[yR];omega⟩
   rcases yX.mp hc with q | q
   · exact .inl q
   · exact .inr (d1 c q)
def sV:List Nat->Int
 | 45::r=>-R9 r 0
 | l=>R9 l 0
def FT (x:Str):Int:=sV x.cps.toList
theorem EC {n:Int}(h:big n):FT (AI n)=n:=by
 obtain⟨m,hm,⟨_,hn,e⟩ | ⟨_,hn,_,e⟩⟩:=KL n h
 all_goals
   obtain⟨d1,d2,d3,d4,d5⟩:=GY m
   unfold FT
   rw[e]
 · cases hd:B7 m with
   | nil=>exact absurd hd d2
   | cons y ys=>
     rw[← hd]
     have hy:=d1 y (by rw[hd];simp)
     unfold sV
     split
     · rename_i r he
       rw[hd] at he
       injection he with e1 _
       omega
     · rw[d3,hn]
 · show -R9 (B7 m) 0=n
   rw[d3,hn]
theorem MQ {n:Int}(h:big n):n.natAbs.log2 < 1920:=by
 obtain⟨h1,h2⟩:=h
 by_cases h0:n.natAbs=0
 · rw[h0];decide
 · rw[Nat.log2_lt h0]
   exact zP (show n.natAbs < 2 ^ 60 by omega) (Nat.pow_le_pow_right (by decide) (by decide))
theorem dZ {n:Nat}(h:n < 1000000000000000000):big n:=⟨by omega,by omega⟩
theorem lK:∀c:Fin 10,∃r,occurrences (a0Q "0123456789") ⟨#[c.val+48]⟩ 0 (a0Q "0123456789").length 1=c.val::r:=by
 have:∀c:Fin 10,occurrences (a0Q "0123456789") ⟨#[c.val+48]⟩ 0 (a0Q "0123456789").length 1=[c.val]:=by decide +kernel
 exact fun c=>⟨[],this c⟩
theorem lL {c:Nat}(h:48<=c/\c<=57):∃r,occurrences (a0Q "0123456789") ⟨#[c]⟩ 0 (a0Q "0123456789").length 1=(c - 48)::r:=by
 obtain⟨r,hr⟩:=lK ⟨c - 48,by omega⟩
 refine⟨r,?_⟩
 rw[← hr]
 show _=occurrences _ ⟨#[c - 48+48]⟩ _ _ _
 rw[show c - 48+48=c by omega]
theorem pY {c:Nat}(h:48<=c/\c<=57):(!(occurrences (a0Q "0123456789") ⟨#[c]⟩ 0 (a0Q "0123456789").length 1).isEmpty)=true:=by
 obtain⟨r,hr⟩:=lL h
 rw[hr]
 rfl
theorem bL (l:List PyData):(l.filter fun _=>true).map (fun _=>PyData.bool true)=(a4K l.length true).map .bool:=by
 rw[List.filter_eq_self.mpr (fun _ _=>rfl),List.map_replicate]
 induction l with
 | nil=>rfl
 | cons x r ih=>rw[zI,ih];rfl
theorem A0f (n:Nat):(a4K n true).all id=true:=by rw[a6W];intro x hx;exact(List.mem_replicate.mp hx).2
theorem W1 (x:Str):b1J x (a0Q "-")=decide (x.cps.toList.head?=some 45):=by
 have h:=subAt_one x 45 0
 unfold b1J
 rw[show a0Q "-"=⟨#[45]⟩ by decide +kernel,b0Q,decide_eq_true_iff,a0V,decide_eq_true_iff,h]
 cases x.cps.toList <;> simp
theorem h7 {z:Str}(h2:∀c∈z.cps.toList,c < 128):b4Q z=true:=by
 unfold b4Q
 rw[Array.all_eq_true']
 intro c hc
 have:=h2 c (by simpa using hc)
 simp;omega
theorem HV {z:Str}(h2:∀c∈z.cps.toList,c < 128):zH (.str z)=true:=BX (h7 h2) (by simp[a4V])
theorem RC (a b:Str):a0W (.str a) (.str b)=(a==b):=by simp[a0W]
def A0g:PyData->PyData | .int n=>.str (AI n) | d=>d
def GO:FSp:=fn1 (fun d=>∃n:Nat,d = .int n/\n < 1000000000000000000) A0g
def F7:FSp:=fn1 (fun d=>∃n:Int,d = .int n/\big n) A0g
def lM:PyData->PyData | .str x=>.int (FT x) | d=>d
def CM:FSp:=fn1 (fun d=>∃n:Nat,d = .str ⟨⟨B7 n⟩⟩/\n < 1000000000000000000) fun _=>.bool true
def F8:FSp:=fn1 (fun d=>∃n:Int,d = .str (AI n)/\big n) lM
def thS (t:Th):Str:=(((t.1++a0Q "@")++AI t.2.1)++a0Q ":")++AI t.2.2
def goodT (t:Th):Prop:=AG t.1/\0<=t.2.1/\t.2.1<=999/\-1000000000000<=t.2.2/\t.2.2<=1000000000000
theorem goodT.place {t:Th}(h:goodT t):big t.2.1:=⟨by have:=h.2.1;omega,by have:=h.2.2.1;omega⟩
theorem goodT.count {t:Th}(h:goodT t):big t.2.2:=⟨by have:=h.2.2.2.1;omega,by have:=h.2.2.2.2;omega⟩
theorem wF:(a0Q "@").cps.toList=[64]:=by decide +kernel
theorem pZ:(a0Q ":").cps.toList=[58]:=by decide +kernel
theorem A0h:a0Q "@"=⟨#[64]⟩:=by decide +kernel
theorem wG:a0Q ":"=⟨#[58]⟩:=by decide +kernel
theorem W3:a0Q ", "=⟨#[44,32]⟩:=by decide +kernel
theorem GZ (t:Th):(thS t).cps.toList=t.1.cps.toList++64::((AI t.2.1).cps.toList++58::(AI t.2.2).cps.toList):=by
 unfold thS
 rw[AY,AY,AY,AY,wF,pZ]
 simp
theorem FL {t:Th}(h:goodT t):(∀c∈(thS t).cps.toList,c < 128/\c≠44)/\(thS t).length<=48:=by
 obtain⟨p1,p2⟩:=B1 h.place
 obtain⟨c1,c2⟩:=B1 h.count
 constructor
 · intro c hc
   rw[GZ] at hc
   simp only[yW,yX] at hc
   rcases hc with q | q | q | q | q
   · have:=h.1.2.2 c q
     unfold CW at this
     simp only[a0V,decide_eq_true_eq] at this
     omega
   · omega
   · have:=p1 c q;omega
   · omega
   · have:=c1 c q;omega
 · have e1:(thS t).length=(thS t).cps.toList.length:=by show(thS t).cps.size=_;simp
   have e2:(AI t.2.1).length=(AI t.2.1).cps.toList.length:=by show(AI t.2.1).cps.size=_;simp
   have e3:(AI t.2.2).length=(AI t.2.2).cps.toList.length:=by show(AI t.2.2).cps.size=_;simp
   have e4:t.1.cps.toList.length<=8:=by have:=h.1.2.1;simpa using this
   rw[e1,GZ]
   simp only[yY,yR]
   omega
theorem lN {t:Th}(h:goodT t):(⟨⟨(AI t.2.1).cps.toList++58::(AI t.2.2).cps.toList⟩⟩:Str).length<=48:=by
 have e:=(FL h).2
 have e1:(thS t).length=(thS t).cps.toList.length:=by show(thS t).cps.size=_;simp
 rw[e1,GZ] at e
 show((AI t.2.1).cps.toList++58::(AI t.2.2).cps.toList).length<=48
 simp only[yY,yR] at e ⊢
 omega
theorem CU (a b:Str):(a++b).length=a.length+b.length:=by show(a.cps++b.cps).size=_;rw[Array.size_append];rfl
theorem JF:(a0Q "@").length=1:=by decide +kernel
theorem GA:(a0Q ":").length=1:=by decide +kernel
theorem KM:Str.empty.length=0:=rfl
theorem W4 {t:Th}(h:goodT t):BD (thD t)=true:=by
 show(BK (.str t.1)&&DY (.int t.2.1)&&FR (.int t.2.2))=true
 obtain⟨⟨a,b,c⟩,d,e,_⟩:=h
 simp only[BK,DY,FR,Bool.and_true,a0V,decide_eq_true_eq,a6W]
 exact⟨⟨⟨a,b⟩,c⟩,d,e⟩
def thP:PyData->PyData
 | .str x=>.tuple [.str (a0J x (a0Q "@")).1,.int (FT (a0J (a0J x (a0Q "@")).2.2 (a0Q ":")).1),.int (FT (a0J (a0J x (a0Q "@")).2.2 (a0Q ":")).2.2)]
 | d=>d
theorem e7 {t:Th}(h:goodT t):a0J (thS t) (a0Q "@")=(t.1,a0Q "@", ⟨⟨(AI t.2.1).cps.toList++58::(AI t.2.2).cps.toList⟩⟩) /\
   a0J ⟨⟨(AI t.2.1).cps.toList++58::(AI t.2.2).cps.toList⟩⟩ (a0Q ":")=(AI t.2.1,a0Q ":", AI t.2.2):=by
 constructor
 · rw[A0h,dX (GZ t) (fun hc=>by
     have:=h.1.2.2 _ hc
     revert this;decide)]
 · rw[wG,dX (x:=⟨⟨(AI t.2.1).cps.toList++58::(AI t.2.2).cps.toList⟩⟩) rfl (fun hc=>by have:=(B1 h.place).1 _ hc;omega)]
theorem bM {t:Th}(h:goodT t):thP (.str (thS t))=thD t:=by
 obtain⟨e1,e2⟩:=e7 h
 show a3J [.str (a0J (thS t) (a0Q "@")).1,.int (FT (a0J (a0J (thS t) (a0Q "@")).2.2 (a0Q ":")).1),.int (FT (a0J (a0J (thS t) (a0Q "@")).2.2 (a0Q ":")).2.2)]=_
 rw[e1]
 show a3J [.str t.1,.int (FT (a0J ⟨⟨(AI t.2.1).cps.toList++58::(AI t.2.2).cps.toList⟩⟩ (a0Q ":")).1),.int (FT (a0J ⟨⟨(AI t.2.1).cps.toList++58::(AI t.2.2).cps.toList⟩⟩ (a0Q ":")).2.2)]=_
 rw[e2]
 show a3J [.str t.1,.int (FT (AI t.2.1)),.int (FT (AI t.2.2))]=_
 rw[EC h.place,EC h.count]
 rfl
def qA:PyData->PyData | .tuple [.str x,.int p,.int k]=>.str (thS (x,p,k)) | d=>d
def HW:FSp:=fn1 (fun d=>∃t,d=thD t/\goodT t) qA
def HX:FSp:=fn1 (fun d=>∃t,d = .str (thS t)/\goodT t) thP
def wsS (w:List Th):Str:=if w.isEmpty then a0Q "-" else a7K (a0Q ", ") (w.map thS)
def qB:PyData->Th | .tuple [.str x,.int p,.int k]=>(x,p,k) | _=>(⟨#[]⟩,0,0)
theorem wH (t:Th):qB (thD t)=t:=rfl
def wsD:PyData->PyData | .tuple ds=>.str (wsS (ds.map qB)) | d=>d
theorem e8 (w:List Th):wsD (wD w) = .str (wsS w):=by
 show a0X (wsS ((w.map thD).map qB))=_
 rw[zD,show qB∘thD=id from funext wH,c2V]
def HY:FSp:=fn1 (fun d=>∃w,d=wD w/\goodW w/\w.length<=25) wsD
def JG:FSp:=fn1 (fun d=>∃w,d=wD w/\goodW w/\w.length<=25) wsD
def wsP:PyData->PyData
 | .str x=>if x=a0Q "-" then .tuple [] else .tuple ((a3V x (a0Q ", ")).map fun p=>thP (.str p))
 | d=>d
theorem goodW.th {w:List Th}(h:goodW w):∀t∈w,goodT t:=h.2
theorem lO {t:Th}(h:goodT t):2<=(thS t).cps.toList.length:=by
 have:1<=t.1.cps.toList.length:=by have:=h.1.1;simpa using this
 rw[GZ]
 simp only[yY,yR]
 omega
theorem YJ {w:List Th}(h:goodW w) (hne:w≠[]):a3V (wsS w) (a0Q ", ")=w.map thS/\wsS w≠a0Q "-" := by
 have e:wsS w=a7K (a0Q ", ") (w.map thS):=by
   unfold wsS
   rw[if_neg]
   simpa using hne
 constructor
 · rw[e,W3]
   exact bK (by simpa using hne) fun p hp=>by
     obtain⟨t,ht,rfl⟩:=zL.mp hp
     exact(FL (h.th t ht)).1
 · intro hc
   obtain⟨t,r,rfl⟩:∃t r,w=t::r:=by cases w with | nil=>exact absurd rfl hne | cons t r=>exact⟨t,r,rfl⟩
   have hl:(wsS (t::r)).cps.toList.length=1:=by rw[hc];decide +kernel
   rw[e,W3,show a7K ⟨#[44,32]⟩ ((t::r).map thS)=b4Z ⟨#[44,32]⟩ ((t::r).map thS) from glued_eq_join _ _,KK] at hl
   have h2:=lO (h.th t (by simp))
   cases r with
   | nil=>rw[show IR (([t].map thS).map (·.cps.toList))=(thS t).cps.toList from rfl] at hl;omega
   | cons q r=>
     rw[show IR (((t::q::r).map thS).map (·.cps.toList))=(thS t).cps.toList++[44,32]++IR (((q::r).map thS).map (·.cps.toList)) from rfl] at hl
     simp only[yY] at hl
     omega
theorem e9 {w:List Th}(h:goodW w):wsP (.str (wsS w))=wD w:=by
 by_cases hne:w=[]
 · subst hne
   show(if wsS []=a0Q "-" then a3J [] else .tuple ((a3V (wsS []) (a0Q ", ")).map fun p=>thP (.str p)))=_
   rw[if_pos (show wsS []=a0Q "-" from rfl)]
   rfl
 · obtain⟨e1,e2⟩:=YJ h hne
   show(if wsS w=a0Q "-" then a3J [] else .tuple ((a3V (wsS w) (a0Q ", ")).map fun p=>thP (.str p)))=_
   rw[if_neg e2,e1,zD]
   show a3J _=a3J _
   congr 1
   apply yM
   intro t ht
   exact bM (h.th t ht)
def HZ:FSp:=fn1 (fun d=>∃w,d = .str (wsS w)/\goodW w/\w.length<=25) wsP
theorem eB (w:List Th):((w.map thD).filter fun _=>true).map qA=(w.map thS).map .str:=by
 rw[List.filter_eq_self.mpr (fun _ _=>rfl),zD,zD]
 rfl
theorem RD {w:List Th}(h:w≠[]):wsS w=a7K (a0Q ", ") (w.map thS):=by
 unfold wsS
 rw[if_neg]
 simpa using h
theorem wI {l:List Nat}{k:Nat}(h:∀x∈l,x<=k):l.sum<=l.length*k:=by
 induction l with
 | nil=>simp
 | cons x r ih=>
   rw[c2W,yR,Nat.succ_mul]
   have h1:=h x (by simp)
   have h2:=ih fun y hy=>h y (by simp[hy])
   omega
theorem O0 {w:List Th}(hw:goodW w) (hwl:w.length<=25):((w.map thS).map (·.length)).sum+(w.map thS).length*(a0Q ", ").length<=2000:=by
 have h1:((w.map thS).map (·.length)).sum<=((w.map thS).map (·.length)).length*48:=wI fun x hx=>by
   obtain⟨s,hs,rfl⟩:=zL.mp hx
   obtain⟨t,ht,rfl⟩:=zL.mp hs
   exact(FL (hw.th t ht)).2
 rw[zX,zX] at h1
 rw[show(a0Q ", ").length=2 by decide +kernel,zX]
 omega
theorem lP {w:List Th}(h:goodW w):(∀c∈(wsS w).cps.toList,c < 128):=by
 by_cases hne:w=[]
 · subst hne
   have e:(wsS []).cps.toList=[45]:=by decide +kernel
   rw[e]
   intro c hc
   have:c=45:=by simpa using hc
   omega
 · rw[RD hne,W3,show a7K ⟨#[44,32]⟩ (w.map thS)=b4Z ⟨#[44,32]⟩ (w.map thS) from glued_eq_join _ _,KK]
   have:∀ps:List (List Nat),(∀p∈ps,∀c∈p,c < 128)->∀c∈IR ps,c < 128:=by
     intro ps
     induction ps with
     | nil=>intro _ c hc;cases hc
     | cons p r ih=>
       intro hp c hc
       cases r with
       | nil=>exact hp p (by simp) c hc
       | cons q r=>
         rcases yW.mp (show c∈p++[44,32]++IR (q::r) from hc) with z | z
         · rcases yW.mp z with z | z
           · exact hp p (by simp) c z
           · simp at z;omega
         · exact ih (fun x hx=>hp x (yV _ hx)) c z
   refine this _ fun p hp=>?_
   obtain⟨s,hs,rfl⟩:=zL.mp hp
   obtain⟨t,ht,rfl⟩:=zL.mp hs
   exact fun c hc=>((FL (h.th t ht)).1 c hc).1
theorem wJ {w:List Th}(h:goodW w) (hwl:w.length<=25):(wsS w).length+2<=sizeLine:=by
 rw[sizeLine_eq]
 by_cases hne:w=[]
 · subst hne;decide +kernel
 · rw[RD hne,show a7K (a0Q ", ") (w.map thS)=b4Z (a0Q ", ") (w.map thS) from glued_eq_join _ _]
   have h1:=PySem.StrLaws.join_length_le (a0Q ", ") (w.map thS)
   have h2:=O0 h hwl
   exact zN (a5J (zN h1 h2) 2) (by decide)
theorem lQ {w:List Th}{k:Nat}{d:PyData}(h:(D5 ((w.map thS).map .str))[k]?=some d):∃t,w[k]?=some t/\d = .tuple [.int (k:Nat),.str (thS t)]:=by
 unfold D5 at h
 rw[zF,b7W,zF,zF] at h
 cases hk:w[k]? with
 | none=>rw[hk] at h;cases h
 | some t=>
   rw[hk] at h
   cases h
   exact⟨t,rfl,by simp⟩
theorem lR (w:List Th):(D5 ((w.map thS).map .str)).length=w.length:=by unfold D5;rw[zX,b5Z,zX,zX]
theorem lS {w:List Th}(h:goodW w) {k:Nat}{t u:Th}(ht:w[k+1]?=some t) (hu:w[k]?=some u):(!decide (u.1.cps.toList < t.1.cps.toList))=false:=by
 rw[kX]
 obtain⟨l1,e1⟩:=yT.mp ht
 obtain⟨l2,e2⟩:=yT.mp hu
 have:=List.pairwise_iff_getElem.mp h.1 k (k+1) (by rw[zX];exact l2) (by rw[zX];exact l1) (Nat.lt_succ_self _)
 rw[List.getElem_map,List.getElem_map,e1,e2] at this
 rw[this];rfl
theorem wK {w:List Th}{k:Nat}{u:Th}(h:w[k]?=some u):atI ((w.take (k+1)).map thD) (-1)=some (thD u):=by
 rw[a4X,h,xI]
 exact L2.jH _ _
theorem h8 {w:List Th}(h:goodW w) (hwl:w.length<=25):zH (wD w)=true:=by
 refine BX (HS fun d hd=>?_) ?_
 · obtain⟨t,ht,rfl⟩:=zL.mp hd
   exact HS (ds:=[.str t.1,.int t.2.1,.int t.2.2]) fun d hd=>by
     simp only[yX,xX,or_false] at hd
     rcases hd with rfl | rfl | rfl
     · exact DZ (h.th t ht).1
     · rfl
     · rfl
 · show a1V (w.map thD)+1<=64
   have:a1V (w.map thD)<=2:=QT fun d hd=>by
     obtain⟨t,ht,rfl⟩:=zL.mp hd
     show a1V [.str t.1,.int t.2.1,.int t.2.2]+1<=2
     simp[a1V,a4V]
   omega
theorem wL {w:List Th}(h:w≠[]):a0W (wD w) (.tuple [])=false:=by
 cases w with
 | nil=>exact absurd rfl h
 | cons t r=>simp[wD,a0W,PyData.eqvAll]
end DL
namespace DL
open PySem PySem.Spec L2 PySem.Builtin.Str PySem.StrLaws PySem.Builtin.Str L2
def wM (c:Nat):Bool:=decide (48<=c)&&decide (c<=57)
def wN (l:List Nat):Bool:=!l.isEmpty&&l.all wM
def OK (l:List Nat):List Nat:=if l.head?=some 45 then l.tail else l
def rwL (l:List Nat):Option Int:=
 if wN (OK l)&&!(decide ((OK l).head?=some 48)&&!decide (l=[48])) then some (if l.head?=some 45 then - R9 (OK l) 0 else R9 (OK l) 0) else none
def wO:Option Int->PyData | some n=>.int n | none=>.none
def rwD:PyData->PyData | .str s=>wO (rwL s.cps.toList) | d=>d
theorem lT {c:Nat}:wM c=true↔48<=c/\c<=57:=by unfold wM;simp
end DL
namespace L2
open PySem PySem.Spec PyProof.Rows
abbrev FU (F:List Addr) (S:Heap->Prop):Prop:=∀h h':Heap,S h->(∀c∈F,∀o,h.get? c=some o->h'.get? c=some o)->S h'
abbrev NxI (P:Program) (w:World) (A:Around) (i:Addr) (S S':Heap->Prop) (R:Value->Prop):Prop:=
 ∀(s:Shared) (Q:Value->Shared->Prop) (E:Value->Shared->Prop),S s.heap->(∀h' tk x,R x->S' h'->Heap.SameBut i s.heap h'->Q x { s with heap:=h',toks:=tk })->wpAny (model P w) A (a3K (.ref i)) Q E s
abbrev NxE (P:Program) (w:World) (A:Around) (i:Addr) (S:Heap->Prop):Prop:=
 ∀(s:Shared) (Q:Value->Shared->Prop) (E:Value->Shared->Prop),S s.heap->(∀h' e,Heap.ExtBut i s.heap h'->(∃o,h'.get? e=some o/\o.cls = .type "StopIteration")->E (.ref e) { s with heap:=h' })->wpAny (model P w) A (a3K (.ref i)) Q E s
structure ZAp (z TI TO i1 i2:Addr) (F1 F2:List Addr):Prop where
 tz:TO≠z
 az:i1≠z
 bz:i2≠z
 ta:TO≠i1
 tb:TO≠i2
 ab:i1≠i2
 f1:∀c∈F1,c≠z/\c≠TO/\c≠i2
 f2:∀c∈F2,c≠z/\c≠TO/\c≠i1
section
variable {prog:Program}{w:World}{A:Around}{E:Value->Shared->Prop}{s:Shared}{z TI TO i1 i2:Addr}{F1 F2:List Addr}{S1 S1' S2 S2':Heap->Prop}{R1 R2:Value->Prop}{a b:Value}
theorem h9 {Q:Value->Shared->Prop}(D:ZAp z TI TO i1 i2 F1 F2) (t1:FU F1 S1) (t1':FU F1 S1') (t2:FU F2 S2) (t2':FU F2 S2') (n1:NxI prog w A i1 S1 S1' R1) (n2:NxI prog w A i2 S2 S2' R2)
   (hz:IsZip s.heap z TI TO .none) (hTI:IsPair s.heap TI (.ref i1) (.ref i2)) (hTO:IsPair s.heap TO a b) (h1:S1 s.heap) (h2:S2 s.heap)
   (l1:∀h,S1' h->i1 < h.objs.size) (l2:∀h,S2' h->i2 < h.objs.size)
   (hQ:∀h' tk x y,R1 x->R2 y->IsZip h' z TI TO (rawInt s.heap.objs.size)->IsPair h' TO x y->S1' h'->S2' h'->IsPair h' s.heap.objs.size x y->h'.objs.size=s.heap.objs.size+1 ->
     (∀c o,c≠z->c≠TO->c≠i1->c≠i2->s.heap.get? c=some o->h'.get? c=some o)->Q (.ref s.heap.objs.size) { s with heap:=h',toks:=tk }) :
   wpAny (model prog w) A (Builtin.«zip.__next__» ⟨[.ref z],[]⟩) (fun fin s'=>∃v,fin = .done (.ret v)/\Q v s') E s:=by
 show wpAny _ _ (field (.ref z) 2 >>= _) _ _ _
 refine zZ (wpAny_field hz rfl (x:=.bool false) rfl ?_);show wpAny _ _ (field (.ref z) 3 >>= _) _ _ _
 refine zZ (wpAny_field hz rfl (x:=.ref TI) rfl ?_);refine zZ (wpAny_seqItems hTI rfl ?_)
 show wpAny _ _ (a5V (.ref z) >>= _) _ _ _;refine zZ ?_;unfold a5V
 refine zZ (wpAny_field hz rfl (x:=.none) rfl (zY ?_));simp only[if_true];refine zZ (wpAny_rule ?_)
 refine zZ (wpAny_field hz rfl (x:=.ref TO) rfl ?_);refine zZ (wpAny_setField_rec hz (by simp) fun g1 y1 q1=>?_)
 replace y1:IsZip g1 z TI TO .ellipsis:=y1
 refine zZ ?_;simp only[List.forIn_cons,List.forIn_nil,List.zipIdx_cons,List.zipIdx_nil]
 refine zZ (zZ (wpAny_onRaise ?_));show wpAny _ _ (a3K (.ref i1) >>= _) _ _ _
 refine zZ (n1 _ _ _ (t1 _ _ h1 fun c hc o e=>q1.extBut _ _ (D.f1 c hc).1 e) fun g2 k2 x rx x2 q2=>zY ?_)
 have p2:IsPair g2 TO a b:=q2.extBut _ _ D.ta (q1.extBut _ _ D.tz hTO)
 refine zZ (wpAny_seqItems p2 rfl ?_);refine zZ (wpAny_updateSeq_pair p2 fun g3 p3 q3=>?_)
 replace p3:IsPair g3 TO x b:=p3
 refine zZ (wpAny_letGo (zY ?_));refine zZ (zZ (wpAny_onRaise ?_));show wpAny _ _ (a3K (.ref i2) >>= _) _ _ _
 refine zZ (n2 _ _ _ (t2 _ _ h2 fun c hc o e=>q3.extBut _ _ (D.f2 c hc).2.1 (q2.extBut _ _ (D.f2 c hc).2.2 (q1.extBut _ _ (D.f2 c hc).1 e))) fun g4 k4 y ry x4 q4=>zY ?_)
 have p4:IsPair g4 TO x b:=q4.extBut _ _ D.tb p3
 refine zZ (wpAny_seqItems p4 rfl ?_);refine zZ (wpAny_updateSeq_pair p4 fun g5 p5 q5=>?_)
 replace p5:IsPair g5 TO x y:=p5
 refine zZ (wpAny_letGo (zY (zY ?_)));refine zZ (wpAny_seqItems p5 rfl ?_);refine zZ (wpAny_newTuple ?_)
 have hsz:g5.objs.size=s.heap.objs.size:=by rw[q5.1,q4.1,q3.1,q2.1,q1.1]
 have y5:IsZip g5 z TI TO .ellipsis:=q5.extBut _ _ D.tz.symm (q4.extBut _ _ D.bz.symm (q3.extBut _ _ D.tz.symm (q2.extBut _ _ D.az.symm y1)))
 have k5:∀c o,c≠z->c≠TO->c≠i1->c≠i2->s.heap.get? c=some o->g5.get? c=some o:=fun c o c1 c2 c3 c4 e=>q5.extBut _ _ c2 (q4.extBut _ _ c4 (q3.extBut _ _ c2 (q2.extBut _ _ c3 (q1.extBut _ _ c1 e))))
 have x25:S1' g5:=t1' _ _ x2 fun c hc o e=>q5.extBut _ _ (D.f1 c hc).2.1 (q4.extBut _ _ (D.f1 c hc).2.2 (q3.extBut _ _ (D.f1 c hc).2.1 e))
 have x45:S2' g5:=t2' _ _ x4 fun c hc o e=>q5.extBut _ _ (D.f2 c hc).2.1 e
 have ltz:z < g5.objs.size:=zM y5
 show wpAny _ _ (b9J (.ref z) (.ref g5.objs.size) >>= _) _ _ _;refine zZ ?_;unfold b9J
 have y6:IsZip (g5.push { cls:=.type "tuple", data:=.seq #[x,y] }) z TI TO .ellipsis:=zW _ y5
 refine zZ (wpAny_setField_rec y6 (by simp) fun g7 y7 q7=>?_)
 replace y7:IsZip g7 z TI TO (rawInt g5.objs.size):=y7
 refine wpAny_setField_rec y7 (by simp) fun g8 y8 q8=>?_
 replace y8:IsZip g8 z TI TO (rawInt g5.objs.size):=y8
 have up:∀c o,c≠z->g5.get? c=some o->g8.get? c=some o:=fun c o c1 e=>q8.extBut _ _ c1 (q7.extBut _ _ c1 (zW _ e))
 have p8:IsPair g8 g5.objs.size x y:=q8.extBut _ _ (a5X ltz) (q7.extBut _ _ (a5X ltz) (yZ _ rfl))
 have s8:g8.objs.size=g5.objs.size+1:=by rw[q8.1,q7.1,b1Q]
 rw[hsz] at y8 p8 s8
 refine zY ⟨_,rfl,?_⟩;show Q (.ref g5.objs.size) _;rw[hsz]
 exact hQ g8 _ x y rx ry y8 (up _ _ D.tz p5) (t1' _ _ x25 fun c hc o e=>up c o (D.f1 c hc).1 e) (t2' _ _ x45 fun c hc o e=>up c o (D.f2 c hc).1 e) p8 s8 fun c o c1 c2 c3 c4 e=>up c o c1 (k5 c o c1 c2 c3 c4 e)
theorem UK {Q:Fin->Shared->Prop}(D:ZAp z TI TO i1 i2 F1 F2) (t1:FU F1 S1) (n1:NxE prog w A i1 S1)
   (hz:IsZip s.heap z TI TO .none) (hTI:IsPair s.heap TI (.ref i1) (.ref i2)) (hTO:IsPair s.heap TO a b) (h1:S1 s.heap)
   (hE:∀h' e tk,(∀c o,c≠z->c≠TO->c≠i1->c≠i2->s.heap.get? c=some o->h'.get? c=some o)->(∃o,h'.get? e=some o/\o.cls = .type "StopIteration")->E (.ref e) { s with heap:=h',toks:=tk }) :
   wpAny (model prog w) A (Builtin.«zip.__next__» ⟨[.ref z],[]⟩) Q E s:=by
 show wpAny _ _ (field (.ref z) 2 >>= _) _ _ _
 refine zZ (wpAny_field hz rfl (x:=.bool false) rfl ?_);show wpAny _ _ (field (.ref z) 3 >>= _) _ _ _
 refine zZ (wpAny_field hz rfl (x:=.ref TI) rfl ?_);refine zZ (wpAny_seqItems hTI rfl ?_)
 show wpAny _ _ (a5V (.ref z) >>= _) _ _ _;refine zZ ?_;unfold a5V
 refine zZ (wpAny_field hz rfl (x:=.none) rfl (zY ?_));simp only[if_true];refine zZ (wpAny_rule ?_)
 refine zZ (wpAny_field hz rfl (x:=.ref TO) rfl ?_);refine zZ (wpAny_setField_rec hz (by simp) fun g1 y1 q1=>?_)
 replace y1:IsZip g1 z TI TO .ellipsis:=y1
 refine zZ ?_;simp only[List.forIn_cons,List.forIn_nil,List.zipIdx_cons,List.zipIdx_nil]
 refine zZ (zZ (wpAny_onRaise ?_));show wpAny _ _ (a3K (.ref i1) >>= _) _ _ _
 refine zZ (n1 _ _ _ (t1 _ _ h1 fun c hc o e=>q1.extBut _ _ (D.f1 c hc).1 e) fun g2 e q2 he=>?_)
 obtain⟨oe,hoe,hce⟩:=he
 have y2:IsZip g2 z TI TO .ellipsis:=q2 _ _ D.az.symm y1
 have ez:e≠z:=fun x=>by subst x;rw[y2] at hoe;cases hoe;simp at hce
 exact wpAny_setField_rec y2 (by simp) fun g3 _ q3=>hE g3 e _ (fun c o c1 _ c3 _ x=>q3.extBut _ _ c1 (q2 _ _ c3 (q1.extBut _ _ c1 x))) ⟨oe,q3.extBut _ _ ez hoe,hce⟩
theorem UL {Q:Option Value->Shared->Prop}(D:ZAp z TI TO i1 i2 F1 F2) (t1:FU F1 S1) (t1':FU F1 S1') (t2:FU F2 S2) (t2':FU F2 S2') (n1:∀A:Around,NxI prog w A i1 S1 S1' R1) (n2:∀A:Around,NxI prog w A i2 S2 S2' R2)
   (hz:IsZip s.heap z TI TO .none) (hTI:IsPair s.heap TI (.ref i1) (.ref i2)) (hTO:IsPair s.heap TO a b) (h1:S1 s.heap) (h2:S2 s.heap)
   (l1:∀h,S1' h->i1 < h.objs.size) (l2:∀h,S2' h->i2 < h.objs.size)
   (hQ:∀h' tk x y,R1 x->R2 y->IsZip h' z TI TO (rawInt s.heap.objs.size)->IsPair h' TO x y->S1' h'->S2' h'->IsPair h' s.heap.objs.size x y->h'.objs.size=s.heap.objs.size+1 ->
     (∀c o,c≠z->c≠TO->c≠i1->c≠i2->s.heap.get? c=some o->h'.get? c=some o)->Q (some (.ref s.heap.objs.size)) { s with heap:=h',toks:=tk }) :
   wpAny (model prog w) A (pyNext (.ref z)) Q E s:=by
 have hT:s.TypeIs (.ref z) "zip" := ⟨_,hz,rfl⟩
 unfold pyNext
 exact zZ (wpAny_attempt (wpAny_callSpecial?_slot (name:=a0Q "__next__") hT F.slot_zip_next (wpAny_call_entry F.slot_zip_next hT F.entry_zip_next
   (h9 D t1 t1' t2 t2' (n1 _) (n2 _) hz hTI hTO h1 h2 l1 l2 fun h' tk x y b1 b2 b3 b4 b5 b6 b7 b8 b9=>zY (hQ h' tk x y b1 b2 b3 b4 b5 b6 b7 b8 b9)) (F.args_zip_next_1 _))))
theorem UM {Q:Option Value->Shared->Prop}(hh:A.handled=none) (hz:IsZip s.heap z TI TO .none)
   (h:∀(Q':Fin->Shared->Prop) (E':Value->Shared->Prop),(∀h' e tk,(∀c o,c≠z->c≠TO->c≠i1->c≠i2->s.heap.get? c=some o->h'.get? c=some o)->(∃o,h'.get? e=some o/\o.cls = .type "StopIteration")->E' (.ref e) { s with heap:=h',toks:=tk }) ->
     ∀A':Around,A'.handled=none->wpAny (model prog w) A' (Builtin.«zip.__next__» ⟨[.ref z],[]⟩) Q' E' s)
   (hQ:∀h' tk,(∀c o,c≠z->c≠TO->c≠i1->c≠i2->s.heap.get? c=some o->h'.get? c=some o)->Q none { s with heap:=h',toks:=tk }):wpAny (model prog w) A (pyNext (.ref z)) Q E s:=by
 have hT:s.TypeIs (.ref z) "zip" := ⟨_,hz,rfl⟩
 unfold pyNext
 refine zZ (wpAny_attempt (wpAny_callSpecial?_slot (name:=a0Q "__next__") hT F.slot_zip_next (wpAny_call_entry F.slot_zip_next hT F.entry_zip_next (h _ _ (fun h' e tk hk he=>?_) _ ?_) (F.args_zip_next_1 _))))
 · obtain⟨o,ho,hc⟩:=he
   refine zZ (wpAny_isInstance (T:= "StopIteration") (b:=true) ⟨o,ho,hc⟩ isSubtype_stop ?_)
   exact zY (hQ _ _ hk)
 · exact hh
end
end L2
namespace L2
open PySem PySem.Spec PyProof.Rows
section
variable {prog:Program}{w:World}{A:Around}{E:Value->Shared->Prop}{s:Shared}
theorem YK {i:Addr}{x:Str}{t:Tok}{k c:Nat}(hx:x.cps[k]?=some c):NxI prog w A i (fun h=>h.IsStrIter i "str_ascii_iterator" x t k) (fun h=>h.IsStrIter i "str_ascii_iterator" x t (k+1)) (fun v=>RelV (.str ⟨#[c]⟩) v):=
 fun s Q E hit hQ=>wpAny_nextOf_ascii_item hit hx fun h' a b=>hQ h' _ _ ⟨_,rfl⟩ a b
theorem UN {i:Addr}{x:Str}{t:Tok}{k:Nat}(hh:A.handled=none) (hx:x.cps[k]?=none):NxE prog w A i (fun h=>h.IsStrIter i "str_ascii_iterator" x t k):=
 fun s Q E hit hE=>wpAny_nextOf_ascii_end hh hit hx hE
theorem lU {i t:Addr}{k:Nat}{items:Array Value}{y:Value}(hne:t≠i) (hx:items[k]?=some y):NxI prog w A i (fun h=>h.IsTupleIter i t k/\h.IsTuple t items) (fun h=>h.IsTupleIter i t (k+1)/\h.IsTuple t items) (fun v=>v=y):=fun s Q E hS hQ=>by
 obtain⟨hit,ht⟩:=hS
 obtain⟨o,ho,hc,hd⟩:=id hit
 obtain⟨ol,hol,hcl,nl,hdl⟩:=id ht
 unfold a3K;refine zZ (wpAny_callSpecial?_slot (name:=a0Q "__next__") hit.typeIs b3W (wpAny_call_entry b3W hit.typeIs F.entry_tuple_iterator_next ?_ (F.args_tuple_iterator_next_1 _)))
 show wpAny _ _ (field (.ref i) 0 >>= _) _ _ s
 refine zZ (wpAny_field ho hd (x:=.ref t) rfl ?_);show wpAny _ _ (if (a0Z t==a4Q)=true then _ else _) _ _ s
 rw[if_neg (show ¬((a0Z t==a4Q)=true) from nft)];show wpAny _ _ (field (.ref i) 1 >>= _) _ _ s
 refine zZ (wpAny_field ho hd (x:=.int k 0) rfl ?_);show wpAny _ _ (seqItems? (.ref t) >>= _) _ _ s
 refine zZ (wpAny_seqItems hol hdl ?_);simp only[b3J,hx]
 refine zZ (wpAny_setField ho hd (by simp) (zY ⟨y,rfl,zY (hQ _ s.toks y rfl ⟨?_,ht.extBut (c2K ..).extBut hne⟩ (c2K ..))⟩))
 exact⟨_,Heap.get?_update_self _ ho (Obj.isFreed_of_fields (Obj.data_mapFields hd _)),(Obj.cls_mapFields ..).trans hc,by rw[Obj.data_mapFields hd];simp[rawInt]⟩
abbrev RE (v:Value) (o:Obj) (Pre:Heap->Prop):Prop:=∀(prog:Program) (w:World) (A:Around) (E:Value->Shared->Prop) (s:Shared) (Q:Value->Shared->Prop),Pre s.heap->Q (.ref s.heap.objs.size) { s with heap:=s.heap.push o }->wpAny (model prog w) A (pyIter v) Q E s
theorem UO {x:Str}{t:Tok}(ha:x.cps.all (· < 128)=true):RE (.str x t) { cls:=.type "str_ascii_iterator", data:=.fields #[.str x t,.int 0 0] } (fun _=>True):=fun prog w A E s Q _ hQ=>wpAny_pyIter_ascii ha hQ
theorem qC {t:Addr}{items:Array Value}:RE (.ref t) { cls:=.type "tuple_iterator", data:=.fields #[.ref t,.int 0 0] } (fun h=>h.IsTuple t items):=fun prog w A E s Q ht hQ=>wpAny_pyIter_tuple ht hQ
abbrev zH1 (h:Heap) (o1:Obj):Heap:=h.push o1
abbrev zH2 (h:Heap) (o1 o2:Obj):Heap:=(zH1 h o1).push o2
abbrev zH3 (h:Heap) (o1 o2:Obj):Heap:=(zH2 h o1 o2).push { cls:=.type "tuple", data:=.seq #[.ref h.objs.size,.ref (zH1 h o1).objs.size] }
abbrev zH4 (h:Heap) (o1 o2:Obj):Heap:=(zH3 h o1 o2).push { cls:=.type "tuple", data:=.seq #[.none,.none] }
abbrev zH5 (h:Heap) (o1 o2:Obj):Heap:=(zH4 h o1 o2).push { cls:=.type "zip", data:=.fields #[.none,.bool false,.bool false,.ref (zH2 h o1 o2).objs.size,.ref (zH3 h o1 o2).objs.size] }
theorem bN {v1 v2:Value}{o1 o2:Obj}{Pre1 Pre2:Heap->Prop}(n1:RE v1 o1 Pre1) (n2:RE v2 o2 Pre2) (st2:∀h o,Pre2 h->Pre2 (h.push o)) :
   Meets (Builtin.«zip.__new__» ⟨[.type "zip", v1,v2],[]⟩) (fun _ R s=>Pre1 s.heap/\Pre2 s.heap/\R (.ok (.ret (.ref (zH4 s.heap o1 o2).objs.size))) { s with heap:=zH5 s.heap o1 o2 }):=
 .of_wp fun prog w A R s h=>by
   obtain⟨hp,g,d,tk,os⟩:=s
   obtain⟨p1,p2,h⟩:=h
   have hsub:=sub_zip
   have p2':Pre2 (hp.push o1):=st2 _ _ p2
   wp_walk using n1 _ _ _ _ _ _ p1,n2 _ _ _ _ _ _ p2'
   exact⟨_,rfl,h⟩
theorem UP {v1 v2:Value}{o1 o2:Obj}{Pre1 Pre2:Heap->Prop}{Q:Value->Shared->Prop}(n1:RE v1 o1 Pre1) (n2:RE v2 o2 Pre2) (st2:∀h o,Pre2 h->Pre2 (h.push o)) (f1:o1.isFreed=false) (f2:o2.isFreed=false) (h1:Pre1 s.heap) (h2:Pre2 s.heap)
   (h:∀h',IsZip h' (s.heap.objs.size+4) (s.heap.objs.size+2) (s.heap.objs.size+3) .none->IsPair h' (s.heap.objs.size+2) (.ref s.heap.objs.size) (.ref (s.heap.objs.size+1)) ->
     IsPair h' (s.heap.objs.size+3) .none .none->h'.get? s.heap.objs.size=some o1->h'.get? (s.heap.objs.size+1)=some o2->(∀c o,s.heap.get? c=some o->h'.get? c=some o)->Q (.ref (s.heap.objs.size+4)) { s with heap:=h' }) :
   wpAny (model prog w) A (call (.type "zip") [v1,v2]) Q E s:=by
 refine callType_new F.called_zip (by decide) (F.typeCall_zip_2 _ _) (F.newCall_zip_2 _ _) (fun obj=>F.args_object_init_3 obj _ _) F.entry_zip_new (bN n1 n2 st2) ⟨h1,h2,?_⟩
 have z1:(zH1 s.heap o1).objs.size=s.heap.objs.size+1:=b1Q ..
 have z2:(zH2 s.heap o1 o2).objs.size=s.heap.objs.size+2:=by rw[b1Q,z1]
 have z3:(zH3 s.heap o1 o2).objs.size=s.heap.objs.size+3:=by rw[b1Q,z2]
 have z4:(zH4 s.heap o1 o2).objs.size=s.heap.objs.size+4:=by rw[b1Q,z3]
 have e5:(zH5 s.heap o1 o2).get? (zH4 s.heap o1 o2).objs.size=some _:=yZ _ rfl
 have e4:(zH5 s.heap o1 o2).get? (zH3 s.heap o1 o2).objs.size=some _:=zW _ (yZ _ rfl)
 have e3:(zH5 s.heap o1 o2).get? (zH2 s.heap o1 o2).objs.size=some _:=zW _ (zW _ (yZ _ rfl))
 have e2:(zH5 s.heap o1 o2).get? (zH1 s.heap o1).objs.size=some o2:=zW _ (zW _ (zW _ (yZ _ f2)))
 have e1:(zH5 s.heap o1 o2).get? s.heap.objs.size=some o1:=zW _ (zW _ (zW _ (zW _ (yZ _ f1))))
 show _/\_
 rw[z2,z3,z4] at e5
 rw[z1,z2] at e3
 rw[z3] at e4
 rw[z1] at e2
 rw[z4]
 exact⟨⟨_,e5,rfl⟩,h _ e5 e3 e4 e1 e2 fun c o x=>zW _ (zW _ (zW _ (zW _ (zW _ x))))⟩
end
section
variable {X:Cx}{pins:List (Addr×Obj)}{σ:St}{H:Hp}{s:Shared}
theorem W5 {a z:Addr}{xs:List V}(I:Inv X pins σ H s) (hf:LN X pins H z) (h:SqT X.K H a xs):a≠z:=by
 rintro rfl
 rcases h with h | ⟨o,its,n,hk,_⟩
 · rcases h with h | ⟨o',h⟩ <;> rw[hf.1] at h <;> cases h
 · have e:=I.ok.mod.kin a o hk
   rcases hf.2.2.2.1 with z | z
   · exact I.ok.noex a o e z
   · exact absurd (zP (zM e) (zN I.ok.bsz z)) (yF _)
end
def A0i (K:Frg) (x:Str) (l2:Addr):It:=
 ⟨fun i H=>∃ys,SqT K H l2 ys/\i < x.cps.size/\i < ys.length,
  fun i H v H'=>∃p c b,H p=none/\v = .ref p/\H'=upd H p (.tup [.str ⟨#[c]⟩,b])/\x.cps[i]?=some c/\∀ys,SqT K H l2 ys->ys[i]?=some b,
  fun i H=>x.cps.size<=i⟩
theorem bO {P:Program}{w:World}{K:Frg}{elts:List Expr}{kk:Nat}{tpos:Pos}(z TI TO i1 i2:Addr) (x:Str) (t:Tok) (l2:Addr) (d1:TI≠z) (d2:TO≠z) (d3:i1≠z) (d4:i2≠z) (d5:TI≠TO) (d6:TI≠i1) (d7:TI≠i2) (d8:TO≠i1) (d9:TO≠i2) (d10:i1≠i2) :
   Turn P w K (.Tuple elts kk tpos) (A0i K x l2) [z,TI,TO,i1,i2] z (fun i h=>IsZip h z TI TO .none/\IsPair h TI (.ref i1) (.ref i2)/\(∃a b,IsPair h TO a b)/\h.IsStrIter i1 "str_ascii_iterator" x t i/\h.IsTupleIter i2 l2 i) where
 mem:=by simp
 obj:=fun i h ⟨a1,a2,⟨x,y,a3⟩,a4,a5⟩ b hb=>by
   simp only[yX,xX,or_false] at hb
   rcases hb with rfl | rfl | rfl | rfl | rfl
   · exact⟨_,a1,fun v q=>by cases q⟩
   · exact⟨_,a2,fun v q=>by cases q⟩
   · exact⟨_,a3,fun v q=>by cases q⟩
   · obtain⟨o,e,c,d⟩:=a4;exact⟨o,e,fun v q=>by rw[d] at q;cases q⟩
   · obtain⟨o,e,c,d⟩:=a5;exact⟨o,e,fun v q=>by rw[d] at q;cases q⟩
 keep:=fun i h h' ⟨a1,a2,⟨x,y,a3⟩,⟨o4,e4,r4⟩,a5⟩ k=>⟨k z (by simp) _ a1,k TI (by simp) _ a2,⟨x,y,k TO (by simp) _ a3⟩,⟨o4,k i1 (by simp) o4 e4,r4⟩,a5.at fun o e=>k i2 (by simp) o e⟩
 item:=by
   intro X hP hw hK hc i pins s σ H E I hf ⟨a1,a2,⟨x0,y0,a3⟩,a4,a5⟩ hg
   subst hP hw hK
   obtain⟨ys,hy,lx,ly⟩:=hg
   obtain⟨its2,ry,py,_⟩:=I.tuple hy
   obtain⟨v,hv,rv⟩:=ry.get (zV ly)
   have hx:x.cps[i]?=some x.cps[i]:=a9Z lx
   have py':s.heap.IsTuple l2 its2.toArray:=py
   have ne2:∀c∈[z,TI,TO,i1,i2],l2≠c:=fun c hc=>W5 I (hf c hc) hy
   have D:ZAp z TI TO i1 i2 [i1] [i2,l2]:=⟨d2,d3,d4,d8,d9,d10,fun c hc=>by
       have:c=i1:=by simpa using hc
       subst this;exact⟨d3,d8.symm,d10⟩,fun c hc=>by
       rcases yX.mp hc with rfl | hc
       · exact⟨d4,d9.symm,d10.symm⟩
       · have:c=l2:=by simpa using hc
         subst this;exact⟨ne2 z (by simp),ne2 TO (by simp),ne2 i1 (by simp)⟩⟩
   have t1:∀k,FU [i1] (fun h=>h.IsStrIter i1 "str_ascii_iterator" x t k):=fun k h h' ⟨o,e,r⟩ q=>⟨o,q i1 (by simp) o e,r⟩
   have t2:∀k,FU [i2,l2] (fun h=>h.IsTupleIter i2 l2 k/\h.IsTuple l2 its2.toArray):=fun k h h' ⟨⟨o,e,r⟩,⟨o',e',r'⟩⟩ q=>⟨⟨o,q i2 (by simp) o e,r⟩,⟨o',q l2 (by simp) o' e',r'⟩⟩
   refine UL (R1:=fun u=>RelV (.str ⟨#[x.cps[i]]⟩) u) (R2:=fun u=>u=v) D (t1 i) (t1 (i+1)) (t2 i) (t2 (i+1)) (fun A=>YK hx) (fun A=>lU (ne2 i2 (by simp)) (by simpa using hv)) a1 a2 a3 a4 ⟨a5,py'⟩
     (fun h ⟨o,e,_⟩=>zM e) (fun h ⟨⟨o,e,_⟩,_⟩=>zM e) fun h' tk u u2 ru eu2 b1 b2 b3 b4 b5 b6 hk=>?_
   subst eu2
   refine⟨_,rfl,wpAny_letOwnedTupleGo_zip (s:={ s with heap:=h',toks:=tk }) b1 fun h2 c1 sb=>?_⟩
   have lt:∀{c o},s.heap.get? c=some o->s.heap.objs.size≠c:=fun e=>a5X (zM e)
   have keep:∀b o,b∉[z,TO,i1,i2]->s.heap.get? b=some o->h2.get? b=some o:=fun b o hb e=>by
     simp only[yX,xX,or_false,not_or] at hb
     exact sb.extBut b o hb.1 (hk b o hb.1 hb.2.1 hb.2.2.1 hb.2.2.2 e)
   have sub:∀b∈[z,TO,i1,i2],b∈[z,TI,TO,i1,i2]:=fun b hb=>by
     simp only[yX,xX,or_false] at hb ⊢
     rcases hb with h | h | h | h <;> simp[h]
   have hTz:s.heap.objs.size≠z:=lt a1
   have I1:Inv X pins σ (upd H s.heap.objs.size (.tup [.str ⟨#[x.cps[i]]⟩,ys[i]])) { s with heap:=h2,toks:=tk }:=I.turnedT (t':=tk) (ch:=[z,TO,i1,i2]) keep (fun b hb=>(hf b (sub b hb)).1)
     (fun b hb=>let q:=hf b (sub b hb);⟨q.2.2.2.1,q.2.1,q.2.2.2.2.1,q.2.2.2.2.2⟩) (zR _)
     ⟨by show 2<=sizeLine;decide,[u,u2],.cons ru (.cons rv .nil),⟨_,sb.extBut _ _ hTz b5,rfl,_,rfl⟩⟩
   refine⟨.ref s.heap.objs.size,_,I1,rfl,⟨s.heap.objs.size,x.cps[i],ys[i],I.hok.fresh (zR _),rfl,rfl,hx,fun ys' hy'=>?_⟩,
     ⟨c1,keep _ _ ?_ a2,⟨_,_,sb.extBut _ _ d2 b2⟩,b3.extBut sb.extBut d3,b4.1.extBut sb.extBut d4⟩,fun b hb=>?_⟩
   · rw[I.tuple_inj hy' hy]
     exact zV ly
   · simp[d1,d5,d6,d7]
   · have hlt:s.heap.objs.size≠b:=by
       simp only[yX,xX,or_false] at hb
       rcases hb with rfl | rfl | rfl | rfl | rfl
       · exact lt a1
       · exact lt a2
       · exact lt a3
       · obtain⟨o,e,_⟩:=a4;exact lt e
       · obtain⟨o,e,_⟩:=a5;exact lt e
     rw[AN (b5Q hlt)]
     exact(hf b hb).1
 done:=by
   intro X hP hw hK hc i pins s σ H E I hf ⟨a1,a2,⟨x0,y0,a3⟩,a4,a5⟩ hg
   subst hP hw hK
   have hx:x.cps[i]?=none:=b6Z hg
   have D:ZAp z TI TO i1 i2 [i1] []:=⟨d2,d3,d4,d8,d9,d10,fun c hc=>by
       have:c=i1:=by simpa using hc
       subst this;exact⟨d3,d8.symm,d10⟩,fun c hc=>nomatch hc⟩
   have t1:FU [i1] (fun h=>h.IsStrIter i1 "str_ascii_iterator" x t i):=fun h h' ⟨o,e,r⟩ q=>⟨o,q i1 (by simp) o e,r⟩
   have sub:∀b∈[z,TO,i1,i2],b∈[z,TI,TO,i1,i2]:=fun b hb=>by
     simp only[yX,xX,or_false] at hb ⊢
     rcases hb with h | h | h | h <;> simp[h]
   refine UM (I.ok.hd hc) a1 (fun Q' E' hE' A' hA'=>UK D t1 (UN hA' hx) a1 a2 a3 a4 hE') fun h' tk hk=>⟨rfl,I.turnedL (t':=tk) (ch:=[z,TO,i1,i2]) (fun b o hb e=>?_) (fun b hb=>(hf b (sub b hb)).1) fun b hb=>let q:=hf b (sub b hb);⟨q.2.2.2.1,q.2.1,q.2.2.2.2.1,q.2.2.2.2.2⟩⟩
   simp only[yX,xX,or_false,not_or] at hb
   exact hk b o hb.1 hb.2.1 hb.2.2.1 hb.2.2.2 e
 self:=fun _ _ _ _ _ st h=>wpAny_pyIter_zip st.1 h
section
variable {X:Cx}{K:Frg}
def lV (K:Frg) (ta:TA):TI:=fun σ H R=>ta σ H fun vs H1=>False∨∃x b,vs=[.str x,.ref b]/\x.cps.all (· < 128)=true/\(∃ys,SqT K H1 b ys)/\R (A0i K x b) H1
theorem qD {a b:Expr}{ta:TA}{p pos:Pos}{elts:List Expr}{kk:Nat}{tpos:Pos}(hg:Gl X "zip") (hm:X.mg "zip"=none) (ha:PA X [a,b] ta) (hs:starEach [a,b] X.env=[(false,eval a X.env),(false,eval b X.env)]:=by rfl) (hs2:starEach [b] X.env=[(false,eval b X.env)]:=by rfl) :
   PI X (.Tuple elts kk tpos) (.Call (.Name "zip" p) [a,b] [] pos) (lV X.K ta):=by
 intro pins s σ H R I h
 refine Call_ (GL I hg hm boot_zip (xH (thn (ha pos pins s σ H _ I h) fun us s1 ⟨vs,H1,I1,r1,q1⟩=>?_) (by rw[hs,hs2]) (by rw[hs2];rfl)))
 have ne:∀(m n:Nat),m≠n->s1.heap.objs.size+m≠s1.heap.objs.size+n:=fun m n h e=>h (Nat.add_left_cancel e)
 have fp:∀b∈[s1.heap.objs.size+4,s1.heap.objs.size+2,s1.heap.objs.size+3,s1.heap.objs.size,s1.heap.objs.size+1],LN X pins H1 b:=fun b hb=>by
   have hle:s1.heap.objs.size<=b:=by
     simp only[yX,xX,or_false] at hb
     rcases hb with rfl | rfl | rfl | rfl | rfl
     · exact a2Q _ _
     · exact a2Q _ _
     · exact a2Q _ _
     · exact zR _
     · exact a2Q _ _
   exact I1.fpOk hle (I1.hok.fresh hle)
 rcases q1 with q1 | ⟨x,l2,e,hx,⟨ys,hy⟩,q⟩
 · exact q1.elim
 · subst e
   cases r1 with
   | cons r rr=>
     cases rr with
     | cons r' rr=>
       cases rr;cases r'
       obtain⟨t,rfl⟩:=r
       obtain⟨its2,ry,py,_⟩:=I1.tuple hy
       refine UP (UO (t:=t) hx) (qC (t:=l2) (items:=its2.toArray)) (fun h o q=>q.push o) rfl rfl trivial (show s1.heap.IsTuple l2 its2.toArray from py) fun h' b1 b2 b3 b4 b5 hk=>?_
       refine wpAny_pyIter_zip (s:={ s1 with heap:=h' }) b1 ?_
       exact⟨s1.heap.objs.size+4,[s1.heap.objs.size+4,s1.heap.objs.size+2,s1.heap.objs.size+3,s1.heap.objs.size,s1.heap.objs.size+1],_,_,H1,rfl,I1.kept (t':=s1.toks) hk,
         bO (s1.heap.objs.size+4) (s1.heap.objs.size+2) (s1.heap.objs.size+3) s1.heap.objs.size (s1.heap.objs.size+1) x t l2 (ne 2 4 (by decide)) (ne 3 4 (by decide)) (ne 0 4 (by decide)) (ne 1 4 (by decide)) (ne 2 3 (by decide)) (ne 2 0 (by decide)) (ne 2 1 (by decide)) (ne 3 0 (by decide)) (ne 3 1 (by decide)) (ne 0 1 (by decide)),
         ⟨b1,b2,⟨_,_,b3⟩,⟨_,b4,rfl,rfl⟩,⟨_,b5,rfl,rfl⟩⟩,fp,q⟩
theorem A0j {a b:Expr}{ta:TA}{p pos:Pos}{elts:List Expr}{kk:Nat}{tpos:Pos}(h:X.K=K) (hg:Gl X "zip") (hm:X.mg "zip"=none) (ha:PA X [a,b] ta) (hs:starEach [a,b] X.env=[(false,eval a X.env),(false,eval b X.env)]:=by rfl) (hs2:starEach [b] X.env=[(false,eval b X.env)]:=by rfl) :
   PI X (.Tuple elts kk tpos) (.Call (.Name "zip" p) [a,b] [] pos) (lV K ta):=h▸qD hg hm ha hs hs2
end
end L2
namespace L2
open PySem PySem.Spec PyProof.Rows
section
variable {X:Cx}
def A0k:R2:=fun x y H Q=>(y = .non/\Q (.bl (decide (x = .non))) H)∨∃a b:Bool,x = .bl a/\y = .bl b/\Q (.bl (a==b)) H
theorem lW:OpR X (compareOp .Is) A0k:=by
 intro pins s σ H x y v u Q I rx ry h
 rcases h with h | ⟨a,b,rfl,rfl,q⟩
 · exact j9 pins s σ H x y v u Q I rx ry h
 · cases rx;cases ry
   refine wpAny_is_plain rfl ⟨.bl (a==b),H,I,?_,q⟩
   cases a <;> cases b <;> rfl
def sW:R2:=fun x y H Q=>(y = .non/\Q (.bl (!decide (x = .non))) H)∨∃a b:Bool,x = .bl a/\y = .bl b/\Q (.bl (!(a==b))) H
theorem eF:OpR X (compareOp .IsNot) sW:=by
 intro pins s σ H x y v u Q I rx ry h
 rcases h with h | ⟨a,b,rfl,rfl,q⟩
 · exact nZ pins s σ H x y v u Q I rx ry h
 · cases rx;cases ry
   refine wpAny_isNot_plain rfl ⟨.bl (!(a==b)),H,I,?_,q⟩
   cases a <;> cases b <;> rfl
end
end L2
namespace DL
open PySem PySem.Spec L2
section
variable {K:Frg}{ρ:List (Option DS)}{M:Own}{Q:DS->Own->Prop}{QI:List PyData->Own->Prop}
theorem Q2 {d:PyData}(q:Q (.d (.bool (CT d))) M):D2 K A0k (.d d) (.d .none) M Q:=EV (vN q)
theorem RF {d:PyData}(q:Q (.d (.bool (!CT d))) M):D2 K sW (.d d) (.d .none) M Q:=EV (pK q)
theorem qE {ta:TA}(h:DA K ta ρ M fun xs M1=>∃z bs,xs=[.d (.str z),.d (.tuple bs)]/\z.cps.all (· < 128)=true/\z.cps.size<=bs.length/\QI (F6 (AK z) bs) M1):DI K (lV K ta) ρ M QI:=fun σ H R Rl k=>
 h σ H _ Rl fun vs H1 xs M1 o1 s1 t1 ⟨z,bs,e,hz,hl0,q⟩=>by
   subst e
   obtain⟨v,r,rfl,h1,v2,r2,rfl,h2,h3⟩:=s1
   cases h3
   rw[AO h1]
   unfold SI DV at h2
   obtain⟨b,vb,rfl,hl2,hd2⟩:=h2
   have hlen:(F6 (AK z) bs).length=z.cps.size:=by unfold F6;rw[zX,b2Z,UD];omega
   refine .inr ⟨z,b,rfl,hz,⟨vb,hl2.sq⟩,k _ (F6 (AK z) bs) H1 M1 o1 t1 ⟨fun i H' M' hi oa st=>?_,fun H' M' oa st=>?_,fun i H' M' x H2 oa st hi y=>?_⟩ q⟩
   · rw[hlen] at hi
     exact⟨vb,(hl2.grow st.grow).sq,hi,by rw[hd2.length];omega⟩
   · show z.cps.size<=_
     rw[hlen];exact zR _
   · obtain⟨p,c,xb,hp,rfl,rfl,hc,hy⟩:=y
     have e2:=hy vb (hl2.grow st.grow).sq
     obtain⟨db,g1,g2⟩:=hd2.get e2
     have gg:Grow K M'.W M'.W H' (upd H' p (.tup [.str ⟨#[c]⟩,xb])):=AU _ hp
     refine⟨oa.new hp,⟨gg⟩,.tuple [.str ⟨#[c]⟩,db],?_,?_⟩
     · unfold F6
       rw[zF]
       have hs:(AK z)[i]?=some (.str ⟨#[c]⟩):=by unfold AK;rw[zF];simp[hc]
       have:((AK z).zip bs)[i]?=some (.str ⟨#[c]⟩,db):=by rw[a4W];exact⟨hs,g1⟩
       rw[this];rfl
     · unfold DV
       exact⟨p,_,rfl,.inl ⟨fun w=>w (oa.none hp),.inl AH⟩,DVs.cons (by unfold DV;rfl) (DVs.cons ((g2.grow st.grow).grow gg) DVs.nil)⟩
def DPs (K:Frg) (trs:List (TE×TE)) (ρ:List (Option DS)) (M:Own) (Q:List (Str×PyData)->Own->Prop):Prop:=
 ∀(σ:St) (H:Hp) (QQ:List (V×V)->Hp->Prop),Rel K M ρ σ H->(∀ps H' kds M',OA K H' M'->(∃vs,DVs K H' M'.W (kds.map (·.2)) vs/\ps=(kds.map fun k=>V.str k.1).zip vs)->Step K M M' H H'->Q kds M'->QQ ps H')->VH trs σ H QQ
theorem Q3 {Q:List (Str×PyData)->Own->Prop}(h:Q [] M):DPs K [] ρ M Q:=fun σ H QQ R k=>k [] H [] M R.own ⟨[],DVs.nil,rfl⟩ Step.refl h
theorem ED {tk tv:TE}{trs:List (TE×TE)}{Q:List (Str×PyData)->Own->Prop}(h:DE K tk ρ M fun x M1=>∃k,x = .d (.str k)/\DE K tv ρ M1 fun y M2=>∃d,y = .d d/\DPs K trs ρ M2 fun kds M3=>Q ((k,d)::kds) M3):DPs K ((tk,tv)::trs) ρ M Q:=fun σ H QQ R kk=>
 h σ H _ R fun v H1 x M1 o1 s1 t1 h1=>by
   obtain⟨k,rfl,h1⟩:=h1
   refine h1 σ H1 _ (R.step o1 t1) fun u H2 y M2 o2 s2 t2 h2=>?_
   obtain⟨d,rfl,h2⟩:=h2
   refine h2 σ H2 _ (R.step o2 (t1.trans t2)) fun ps H3 kds M3 o3 ⟨vs,s3,e3⟩ t3 q=>?_
   refine kk _ H3 ((k,d)::kds) M3 o3 ⟨u::vs,DVs.cons (DV.grow t3.grow s2) s3,?_⟩ ((t1.trans t2).trans t3) q
   rw[AO s1,e3];rfl
theorem OL:∀(kvs acc:List (Key×V)),((acc++kvs).map (·.1)).Nodup->J6 acc kvs=acc++kvs
 | [],acc,_=>by simp[J6]
 | kv::r,acc,h=>by
   have h1:(acc.any fun x=>decide (x.1=kv.1))=false:=by
     rw[c1K]
     intro x hx
     rw[xI,List.nodup_append] at h
     have:=h.2.2 x.1 (zL.mpr ⟨x,hx,rfl⟩) kv.1 (by simp)
     simpa using this
   show J6 (EU acc kv.1 kv.2) r=_
   have e:EU acc kv.1 kv.2=acc++[kv]:=by
     unfold EU
     rw[h1];rfl
   rw[e,OL r (acc++[kv]) (by rw[a8Q];exact h)]
   simp
theorem lX {H:Hp}{W:Addr->Prop}:∀{kds:List (Str×PyData)}{vs:List V},DVs K H W (kds.map (·.2)) vs->DKV K H W (kds.map fun k=>(.str k.1,k.2)) ((kds.map fun k=>(a1K k.1:Key)).zip vs)
 | [],vs,h=>by unfold DKV;rfl
 | (k,d)::r,vs,h=>by
   rw[zI] at h
   unfold DVs at h
   obtain⟨v,r',rfl,h1,h2⟩:=h
   rw[zI]
   unfold DKV
   exact⟨a1K k,v,_,rfl,rfl,h1,lX h2⟩
theorem YL:∀(kds:List (Str×PyData)) (vs:List V),vs.length=kds.length->(kds.map fun k=>V.str k.1).zip vs=((kds.map fun k=>(a1K k.1:Key)).zip vs).map fun kv=>(kV kv.1,kv.2)
 | [],vs,_=>by simp
 | a::r,[],h=>by cases h
 | a::r,v::vs,h=>by
   rw[zI,zI,a6J,a6J,zI,YL r vs (by simpa using h)];rfl
theorem MR {trs:List (TE×TE)}(h:∀p,M p=none->DPs K trs ρ (M.put p (.d [])) fun kds M1=>M1 p=some (.d [])/\kds.length<=15/\(kds.map (·.1)).Nodup/\Q (.d (.dict (kds.map fun k=>(.str k.1,k.2)))) (M1.del p)):DE K (sK trs) ρ M Q:=fun σ H QQ R k p hp=>by
 have hMp:=R.own.none hp
 obtain⟨oa0,st0⟩:=Y2 (kvs:=[]) (ks:=[]) R.own hp (by unfold DKV;rfl)
 refine h p hMp σ _ _ (R.step oa0 st0) fun ps H2 kds M2 o2 ⟨vs,hd,e⟩ t2 h2=>?_
 obtain⟨hm,hl,nd,q⟩:=h2
 obtain⟨ks,q1,q2⟩:=o2 p _ hm
 unfold DKV at q2
 subst q2
 have hlen:vs.length=kds.length:=by rw[hd.length,zX]
 refine⟨q1,(kds.map fun k=>(a1K k.1:Key)).zip vs,?_,by rw[b2Z,zX];omega,?_⟩
 · rw[e];exact YL kds vs hlen
 · have hk:(((kds.map fun k=>(a1K k.1:Key)).zip vs).map (·.1)).Nodup:=by
     rw[List.map_fst_zip (by rw[zX,hlen];exact zR _)]
     have:kds.map (fun k=>(a1K k.1:Key))=(kds.map (·.1)).map a1K:=by rw[zD];rfl
     rw[this]
     unfold List.Nodup
     rw[b2W]
     exact nd.imp fun {a b} q e=>q (by injection e)
   rw[OL _ [] (by simpa using hk),List.nil_append]
   obtain⟨o3,t3⟩:=FQ (kvs:=kds.map fun k=>(.str k.1,k.2)) (ks:=(kds.map fun k=>(a1K k.1:Key)).zip vs) o2 hm (lX hd)
   have hs:(M2.del p).Sub (M2.put p (.d (kds.map fun k=>(.str k.1,k.2)))):=fun b o e=>by
     unfold Own.del at e
     by_cases hb:b=p
     · rw[if_pos hb] at e;cases e
     · rw[if_neg hb] at e;rw[yH hb];exact e
   refine k _ _ (.d (.dict (kds.map fun k=>(.str k.1,k.2)))) (M2.del p) (o3.sub hs) ?_ (((st0.trans t2).trans t3).trans ⟨BR hs⟩) q
   obtain⟨ks',q1',q2'⟩:=o3 p _ zU
   unfold SI DV
   exact⟨p,ks',rfl,fun w=>w (by unfold Own.del;rw[if_pos rfl]),.inl q1',q2'.grow (BR hs)⟩
def IS (k:Str):List (PyData×PyData)->Option PyData
 | (.str a,d)::r=>if a=k then some d else IS k r
 | _::r=>IS k r
 | []=>none
theorem eG {H:Hp}{W:Addr->Prop}{k:Str}:∀{kvs:List (PyData×PyData)}{ks:List (Key×V)},DKV K H W kvs ks->(∃d v,IS k kvs=some d/\FP ks (a1K k)=some v/\DV K H W d v)∨(IS k kvs=none/\FP ks (a1K k)=none)
 | [],ks,h=>by unfold DKV at h;subst h;exact .inr ⟨rfl,rfl⟩
 | (kd,d)::r,ks,h=>by
   unfold DKV at h
   obtain⟨k',v,r',rfl,rfl,h1,h2⟩:=h
   have ih:=eG (k:=k) h2
   unfold FP at ih ⊢
   rw[a9W]
   cases k' with
   | inl i=>
     have e1:decide ((Sum.inl i:Key)=a1K k)=false:=rfl
     rw[e1]
     exact ih
   | inr a=>
     by_cases e:a=k
     · subst e
       left
       exact⟨d,v,by simp[jU,IS],by simp,h1⟩
     · have e1:decide ((a1K a:Key)=a1K k)=false:=decide_eq_false fun q=>e (by injection q)
       rw[e1]
       rcases ih with ⟨d',v',a1,a2,a3⟩ | ⟨a1,a2⟩
       · exact .inl ⟨d',v',by simp only[jU,IS,if_neg e];exact a1,a2,a3⟩
       · exact .inr ⟨by simp only[jU,IS,if_neg e];exact a1,a2⟩
theorem MS {td ty tx:TE}(h:DE K td ρ M fun x M1=>∃kvs,x = .d (.dict kvs)/\DE K ty ρ M1 fun y M2=>∃k,y = .d (.str k)/\DE K tx ρ M2 fun z M3=>∃dz,z = .d dz/\Q (.d ((IS k kvs).getD dz)) M3):DE K (jL td ty tx) ρ M Q:=fun σ H QQ R kk=>
 h σ H _ R fun v H1 x M1 o1 s1 t1 h1=>by
   obtain⟨kvs,rfl,h1⟩:=h1
   have s1':=s1
   unfold SI DV at s1'
   obtain⟨a,ks,rfl,nw,ha,hk⟩:=s1'
   refine⟨a,rfl,.inl ⟨ks,ha⟩,h1 σ H1 _ (R.step o1 t1) fun u H2 y M2 o2 s2 t2 h2=>?_⟩
   obtain⟨k,rfl,h2⟩:=h2
   refine h2 σ H2 _ (R.step o2 (t1.trans t2)) fun z H3 zz M3 o3 s3 t3 h3=>?_
   obtain⟨dz,rfl,q⟩:=h3
   have s1'':=s1.step (t2.trans t3)
   unfold SI DV at s1''
   obtain⟨a',ks',e,nw',ha',hk'⟩:=s1''
   cases e
   rw[AO s2]
   rcases eG (k:=k) hk' with ⟨d,v,e1,e2,e3⟩ | ⟨e1,e2⟩
   · rw[e1] at q
     exact⟨some v,.inl ⟨ks',a1K k,ha',rfl,e2.symm⟩,kk _ H3 (.d d) M3 o3 e3 ((t1.trans t2).trans t3) q⟩
   · rw[e1] at q
     exact⟨none,.inl ⟨ks',a1K k,ha',rfl,e2.symm⟩,kk _ H3 (.d dz) M3 o3 s3 ((t1.trans t2).trans t3) q⟩
end
end DL
namespace L2
open PySem PySem.Spec PyProof.Rows
section
variable {prog:Program}{w:World}{A:Around}{E:Value->Shared->Prop}{s:Shared}
theorem RG {it l:Addr}{its:Array Value}(hne:l≠it):∀(n i:Nat) (s:Shared) (Q:List Value->Shared->Prop),s.heap.IsListIter it l i->s.heap.IsList l its->i+n<=its.size ->
   (∀h',h'.IsListIter it l (i+n)->Heap.SameBut it s.heap h'->Q ((its.toList.drop i).take n) { s with heap:=h' })->wpAny (model prog w) A (draw (.ref it) n) Q E s
 | 0,i,s,Q,hit,_,_,hQ=>by
   show wpAny _ _ (pure []) Q E s;exact zY (by simpa using hQ s.heap hit (Heap.SameBut.refl ..))
 | n+1,i,s,Q,hit,hl,hle,hQ=>by
   have hlt:i < its.size:=by omega
   show wpAny _ _ (pyNext (.ref it) >>= _) Q E s;refine zZ (wpAny_pyNext_list_item hit hl (x:=its[i]) (by simp[hlt]) fun g1 t1 q1=>?_)
   refine zZ (wpAny_holding (RG hne n (i+1) _ _ t1 (hl.extBut q1.extBut hne) (by omega) fun g2 t2 q2=>zY ?_))
   have hd:its.toList.drop i=its[i]::its.toList.drop (i+1):=by simp[c0K,hlt]
   have h3:=hQ g2 (by rw[show i+(n+1)=i+1+n by omega];exact t2) (q1.trans q2)
   rw[hd,List.take_succ_cons] at h3
   exact h3
theorem bP {l:Addr}{its:Array Value}{Q:List Value->Shared->Prop}(hh:A.handled=none) (hl:s.heap.IsList l its)
   (hQ:∀h',Heap.ExtBut s.heap.objs.size s.heap h'->Q its.toList { s with heap:=h' }):wpAny (model prog w) A (unpackItems (.ref l) its.size none) Q E s:=by
 have hne:l≠s.heap.objs.size:=by obtain⟨o,ho,_⟩:=hl;exact zC (zM ho)
 unfold unpackItems;refine zZ ?_;unfold notIterableAtAll
 refine zZ (wpAny_specialOf hl.typeIs F.slot_list_iter.lookup ?_);refine zY ?_;simp only[b5K,if_false]
 refine zZ (wpAny_holding (wpAny_pyIter_list hl ?_))
 refine zZ (wpAny_holding (RG hne its.size 0 _ _ ⟨_,yZ _ rfl,rfl,rfl⟩ (hl.push _) (by omega) fun g1 t1 q1=>?_))
 rw[show List.take its.size (List.drop 0 its.toList)=its.toList by rw[b1Z];exact a8Z (by simp),if_neg (by simp)]
 refine zZ (wpAny_holding (wpAny_pyNext_list_end hh t1 ((hl.push _).extBut q1.extBut hne) (by simp) fun g2 e2=>?_));simp only[Option.isSome_none,b5K,if_false]
 exact zY (hQ g2 fun b o hb e=>e2 b o hb (q1.extBut b o hb (zW _ e)))
end
section
variable {X:Cx}{pos:Pos}
def eI (K:Frg) (n:Nat) (t:TGs):TG:=fun v σ H Q=>∃a xs,v = .ref a/\(SqT K H a xs∨SqL K H a xs)/\xs.length=n/\t xs σ H Q
theorem qF {es:List Expr}{k:Nat}{t:TGs}{n:Nat}(hc:X.calm=true) (h:PGs X es t)
   (hn:(assignEach es X.env).length=n:=by rfl) (hst:(assignEach es X.env).findIdx? (·.1)=none:=by rfl):PG X (.Tuple es k pos) (eI X.K n t):=by
 intro pins s σ H v u Q I r hw
 obtain⟨a,xs,e1,hq,hl,hw⟩:=hw
 rcases hq with hq | hq
 · exact j6 hc h hn hst pins s σ H v u Q I r ⟨a,xs,e1,hq,hl,hw⟩
 · subst e1
   cases r
   obtain⟨its,rv,pl,hz⟩:=I.list hq
   rw[arm_assign_Tuple]
   refine zZ (wpAny_standAt ?_)
   unfold unpack
   rw[show(assignEach es X.env).length=its.toArray.size by simp[hn,← hl,rv.length],hst]
   refine zZ (wpAny_holding (bP (I.ok.hd hc) pl.isList fun h' hx=>?_))
   have I1:Inv X pins σ H { s with heap:=h' }:=I.kept (t':=s.toks) fun b o e=>hx b o (zC (zM e)) e
   exact h pins _ σ H xs _ Q I1 (by simpa using rv) hw
end
end L2
namespace DL
open PySem PySem.Spec L2
theorem UQ {X:Cx}{K:Frg}{pos:Pos}{es:List Expr}{k:Nat}{t:TGs}{n:Nat}(hK:X.K=K) (hc:X.calm=true) (h:PGs X es t)
   (hn:(assignEach es X.env).length=n:=by rfl) (hst:(assignEach es X.env).findIdx? (·.1)=none:=by rfl):PG X (.Tuple es k pos) (eI K n t):=hK▸qF hc h hn hst
section
variable {K:Frg}{M:Own}{ρ:List (Option DS)}{P:List (Option DS)->Own->Prop}
theorem qG {n:Nat}{g:TGs}{ds:List PyData}(hn:ds.length=n) (h:DGs K g ds ρ M P):DG K (eI K n g) (.tuple ds) ρ M P:=fun σ H v QQ R dv k=>by
 unfold DV at dv
 obtain⟨a,vs,rfl,hl,hd⟩:=dv
 exact⟨a,vs,rfl,.inl hl.sq,by rw[hd.length];exact hn,h σ H vs QQ R hd k⟩
end
end DL
namespace L2
open PySem PySem.Spec PyProof.Rows PySem.W
section
variable {n:Nat}{lt:Nat->Nat->Bool}
def Good (n:Nat) (lt:Nat->Nat->Bool) {α:Type}(P:α->Prop):KasT α->Prop
 | .ret a=>P a
 | .ask i j k=>i < n/\j < n/\i≠j/\Good n lt P (k (lt i j))
theorem Good.mono {α:Type}{P Q:α->Prop}(h:∀a,P a->Q a):∀{t:KasT α},Good n lt P t->Good n lt Q t
 | .ret _,g=>h _ g
 | .ask _ _ _,⟨a,b,c,g⟩=>⟨a,b,c,Good.mono h g⟩
theorem Good.bind {α β:Type}{P:β->Prop}{f:α->KasT β}:∀{t:KasT α},Good n lt (fun a=>Good n lt P (f a)) t->Good n lt P (t.bind f)
 | .ret _,g=>g
 | .ask _ _ _,⟨a,b,c,g⟩=>⟨a,b,c,Good.bind g⟩
theorem Good.wp {α:Type}{cmp:Nat->Nat->(Bool->Shared->Prop)->Shared->Prop}{s:Shared}{P:α->Prop}{Q:α->Shared->Prop}
   (hc:∀i j (C:Bool->Shared->Prop),i < n->j < n->i≠j->C (lt i j) s->cmp i j C s) (hq:∀a,P a->Q a s):∀{t:KasT α},Good n lt P t->t.kasWp cmp Q s
 | .ret a,g=>hq a g
 | .ask i j k,⟨a,b,c,g⟩=>hc i j _ a b c (Good.wp hc hq g)
structure Strict (n:Nat) (lt:Nat->Nat->Bool):Prop where
 irr:∀i,lt i i=false
 tr:∀i j k,lt i j=true->lt j k=true->lt i k=true
 tot:∀i j,i < n->j < n->i≠j->lt i j=true∨lt j i=true
def Pm (n:Nat) (p:Array Nat):Prop:=p.toList.Perm (a3Z n)
theorem Pm.size {p:Array Nat}(h:Pm n p):p.size=n:=by have:=h.length_eq;simpa using this
theorem Pm.bel {p:Array Nat}(h:Pm n p) {i:Nat}(hi:i < n):p.getD i 0 < n:=by
 have hs:i < p.size:=by rw[h.size];exact hi
 have:p[i]∈a3Z n:=h.mem_iff.mp (by simp)
 simp only[Array.getD,hs,dite_true]
 exact List.mem_range.mp this
theorem wP {l:List Nat}(nd:l.Nodup) {i j:Nat}{hi:i < l.length}{hj:j < l.length}(e:l[i]=l[j]):i=j:=by
 rcases c2Z i j with h | h | h
 · exact absurd e (List.pairwise_iff_getElem.mp nd i j hi hj h)
 · exact h
 · exact absurd e.symm (List.pairwise_iff_getElem.mp nd j i hj hi h)
theorem Pm.inj {p:Array Nat}(h:Pm n p) {i j:Nat}(hi:i < n) (hj:j < n) (hij:i≠j):p.getD i 0≠p.getD j 0:=by
 have hsi:i < p.size:=by rw[h.size];exact hi
 have hsj:j < p.size:=by rw[h.size];exact hj
 simp only[Array.getD,hsi,hsj,dite_true]
 have nd:p.toList.Nodup:=h.nodup_iff.mpr List.nodup_range
 intro e
 have e':p.toList[i]'(by simpa using hsi)=p.toList[j]'(by simpa using hsj):=by simpa using e
 exact hij (wP nd e')
def Up (lt:Nat->Nat->Bool) (p:Array Nat) (k:Nat):Prop:=∀i j,i < j->j < k->lt (p.getD i 0) (p.getD j 0)=true
def Dn (lt:Nat->Nat->Bool) (p:Array Nat) (k:Nat):Prop:=∀i j,i < j->j < k->lt (p.getD j 0) (p.getD i 0)=true
theorem RH (S:Strict n lt) {p:Array Nat}(hp:Pm n p):∀(f m:Nat),1<=m->m+f<=n->Up lt p m ->
   Good n lt (fun r=>m<=r/\r<=m+f/\Up lt p r/\(r=m+f∨lt (p.getD r 0) (p.getD (r - 1) 0)=true)) (kas_asc p f m)
 | 0,m,h1,h2,h3=>⟨zR _,zR _,h3,.inl rfl⟩
 | f+1,m,h1,h2,h3=>by
   unfold kas_asc
   refine⟨hp.bel (by omega),hp.bel (by omega),hp.inj (by omega) (by omega) (by omega),?_⟩
   cases hc:lt (p.getD m 0) (p.getD (m - 1) 0) with
   | true=>exact⟨zR _,by omega,h3,.inr hc⟩
   | false=>
     have hup:lt (p.getD (m - 1) 0) (p.getD m 0)=true:=(S.tot _ _ (hp.bel (by omega)) (hp.bel (by omega)) (hp.inj (i:=m - 1) (j:=m) (by omega) (by omega) (by omega))).elim id fun z=>by rw[hc] at z;cases z
     dsimp only
     rw[if_neg nft]
     refine(RH S hp f (m+1) (by omega) (by omega) fun i j hij hj=>?_).mono fun r ⟨a,b,c,d⟩=>⟨by omega,by omega,c,d.elim (fun z=>.inl (by omega)) .inr⟩
     by_cases hjm:j < m
     · exact h3 i j hij hjm
     · have e:j=m:=by omega
       subst e
       by_cases hi:i=j - 1
       · subst hi;exact hup
       · exact S.tr _ _ _ (h3 i (j - 1) (by omega) (by omega)) hup
theorem UR (S:Strict n lt) {p:Array Nat}(hp:Pm n p):∀(f m:Nat),1<=m->m+f<=n->Dn lt p m ->
   Good n lt (fun r=>r.1=p/\r.2.2=0/\m<=r.2.1/\r.2.1<=m+f/\Dn lt p r.2.1) (kas_desc f p m 0)
 | 0,m,h1,h2,h3=>⟨rfl,rfl,zR _,zR _,h3⟩
 | f+1,m,h1,h2,h3=>by
   unfold kas_desc
   refine⟨hp.bel (by omega),hp.bel (by omega),hp.inj (by omega) (by omega) (by omega),?_⟩
   cases hc:lt (p.getD m 0) (p.getD (m - 1) 0) with
   | true=>
     dsimp only
     rw[if_pos rfl,if_neg (yF 0)]
     refine(UR S hp f (m+1) (by omega) (by omega) fun i j hij hj=>?_).mono fun r ⟨a,b,c,d,e⟩=>⟨a,b,by omega,by omega,e⟩
     by_cases hjm:j < m
     · exact h3 i j hij hjm
     · have e:j=m:=by omega
       subst e
       by_cases hi:i=j - 1
       · subst hi;exact hc
       · exact S.tr _ _ _ hc (h3 i (j - 1) (by omega) (by omega))
   | false=>
     have hup:lt (p.getD (m - 1) 0) (p.getD m 0)=true:=(S.tot _ _ (hp.bel (by omega)) (hp.bel (by omega)) (hp.inj (i:=m - 1) (j:=m) (by omega) (by omega) (by omega))).elim id fun z=>by rw[hc] at z;cases z
     dsimp only
     rw[if_neg nft]
     refine⟨hp.bel (by omega),hp.bel (by omega),hp.inj (by omega) (by omega) (by omega),?_⟩
     dsimp only
     rw[hup,if_pos rfl]
     exact⟨rfl,rfl,zR _,(show m<=_ by omega),h3⟩
theorem Q4 {α:Type}{xs ys:Array α}{i j:Nat}{d:α}(h:xs[i]?=ys[j]?):xs.getD i d=ys.getD j d:=by
 rw[b8J,b8J,h]
theorem lY {p:Array Nat}(hp:Pm n p) (i j:Nat):Pm n (kas_rev p i j):=(Array.perm_iff_toList_perm.mp (mirror_perm _ _ _ _)).trans hp
theorem bQ (S:Strict n lt) {p:Array Nat}(hp:Pm n p) {m:Nat}(h1:1<=m) (h2:m<=n) (h3:Dn lt p m) :
   Good n lt (fun r=>1<=r.1/\r.1<=n/\Pm n r.2/\Up lt r.2 r.1) (kas_tail3 m n p):=by
 unfold kas_tail3
 refine Good.bind ((RH S (lY hp 0 m) (n - m) m h1 (by omega) fun i j hij hj=>?_).mono fun r ⟨a,b,c,_⟩=>⟨by omega,by omega,lY hp 0 m,c⟩)
 have hz:m<=p.size:=by rw[hp.size];exact h2
 have e:∀k,k < m->(kas_rev p 0 m).getD k 0=p.getD (m - 1 - k) 0:=fun k hk=>by
   refine Q4 ?_
   unfold kas_rev
   rw[getElem?_mirror_all (i:=0) hz k,if_pos ⟨xT _,hk⟩,Nat.zero_add]
 rw[e i (by omega),e j (by omega)]
 exact h3 _ _ (by omega) (by omega)
theorem T1 (S:Strict n lt) {p:Array Nat}(hp:Pm n p) {m:Nat}(h2:m+1<=n) (h3:Dn lt p (m+1)) :
   Good n lt (fun r=>1<=r.1/\r.1<=n/\Pm n r.2/\Up lt r.2 r.1) (kas_descPart m n p):=by
 unfold kas_descPart
 refine Good.bind ((UR S hp (n - (m+1)) (m+1) (by omega) (by omega) h3).mono fun r ⟨a,b,c,d,e⟩=>?_)
 rw[b,if_neg (yF 0),a]
 exact bQ S hp (by omega) (by omega) e
theorem bR (S:Strict n lt) {p:Array Nat}(hp:Pm n p) (h2:1<=n) :
   Good n lt (fun r=>1<=r.1/\r.1<=n/\Pm n r.2/\Up lt r.2 r.1) (kas_count n p):=by
 unfold kas_count
 refine Good.bind ((RH S hp (n - 1) 1 (zR _) (by omega) fun i j hij hj=>by omega).mono fun r ⟨a,b,c,d⟩=>?_)
 by_cases hr:r=n
 · subst hr
   rw[if_pos (by simp)]
   exact⟨a,zR _,hp,c⟩
 · rw[if_neg (by simpa using hr)]
   have hlt:lt (p.getD r 0) (p.getD (r - 1) 0)=true:=d.resolve_left (by omega)
   by_cases h1:r > 1
   · rw[if_pos h1]
     refine⟨hp.bel (by omega),hp.bel (by omega),hp.inj (by omega) (by omega) (by omega),?_⟩
     dsimp only
     rw[c 0 (r - 1) (by omega) (by omega),if_pos rfl]
     exact⟨a,by omega,hp,c⟩
   · rw[if_neg h1]
     have e:r=1:=by omega
     subst e
     refine T1 S hp (by omega) fun i j hij hj=>?_
     have e1:i=0:=by omega
     have e2:j=1:=by omega
     subst e1 e2
     exact hlt
theorem LS (S:Strict n lt) {p:Array Nat}(hp:Pm n p) {k:Nat}(hk:k < n) (hu:Up lt p k):∀(f l r:Nat),l<=r->r<=k->r - l<=f ->
   (∀i,i < l->lt (p.getD i 0) (p.getD k 0)=true)->(∀i,r<=i->i < k->lt (p.getD k 0) (p.getD i 0)=true) ->
   Good n lt (fun x=>x<=k/\(∀i,i < x->lt (p.getD i 0) (p.getD k 0)=true)/\∀i,x<=i->i < k->lt (p.getD k 0) (p.getD i 0)=true) (kas_place p k f l r)
 | 0,l,r,h1,h2,h3,h4,h5=>by
   unfold kas_place
   exact⟨by omega,h4,fun i hi hik=>h5 i (by omega) hik⟩
 | f+1,l,r,h1,h2,h3,h4,h5=>by
   unfold kas_place
   by_cases hge:l≥r
   · rw[if_pos hge]
     exact⟨by omega,h4,fun i hi hik=>h5 i (by omega) hik⟩
   · rw[if_neg hge]
     have hm:l<=(l+r)/2/\(l+r)/2 < r:=by omega
     generalize (l+r)/2=m at hm ⊢
     obtain⟨hm1,hm2⟩:=hm
     have hmk:m < k:=zP hm2 h2
     have hmn:m < n:=Nat.lt_trans hmk hk
     refine⟨hp.bel hk,hp.bel hmn,hp.inj hk hmn (a5X hmk),?_⟩
     cases hc:lt (p.getD k 0) (p.getD m 0) with
     | true=>
       dsimp only
       rw[if_pos rfl]
       refine LS S hp hk hu f l m hm1 (xR hmk) (by omega) h4 fun i hi hik=>?_
       by_cases e:i=m
       · subst e;exact hc
       · exact S.tr _ _ _ hc (hu _ _ (Nat.lt_of_le_of_ne hi (b5Q e)) hik)
     | false=>
       dsimp only
       rw[if_neg nft]
       have hup:lt (p.getD m 0) (p.getD k 0)=true:=(S.tot _ _ (hp.bel hmn) (hp.bel hk) (hp.inj (i:=m) (j:=k) hmn hk (zC hmk))).elim id fun z=>by rw[hc] at z;cases z
       refine LS S hp hk hu f (m+1) r hm2 h2 (by omega) (fun i hi=>?_) h5
       by_cases e:i=m
       · subst e;exact hup
       · exact S.tr _ _ _ (hu _ _ (by omega) (by omega)) hup
theorem YM (S:Strict n lt):∀(f:Nat) {p:Array Nat}{k:Nat},Pm n p->k+f=n->Up lt p k->Good n lt (fun q=>Pm n q/\Up lt q n) (kas_bin f p k)
 | 0,p,k,hp,h1,h2=>by
   have e:k=n:=by omega
   subst e
   exact⟨hp,h2⟩
 | f+1,p,k,hp,h1,h2=>by
   unfold kas_bin
   refine Good.bind ((LS S hp (by omega) h2 k 0 k (xT _) (zR _) (by omega) (fun i hi=>by omega) fun i hi hk=>by omega).mono fun x ⟨hx,a,b⟩=>?_)
   have hks:k < p.size:=by rw[hp.size];omega
   refine YM S f ((Array.perm_iff_toList_perm.mp (bubble_perm _ _ _)).trans hp) (by omega) fun i j hij hj=>?_
   have e:∀q,(bubble p k (k - x)).getD q 0=if q=x then p.getD k 0 else if x < q/\q<=k then p.getD (q - 1) 0 else p.getD q 0:=fun q=>by
     have:=getElem?_bubble hks (k - x) (by omega) q
     rw[show k - (k - x)=x by omega] at this
     by_cases c1:q=x
     · rw[if_pos c1] at this ⊢;exact Q4 this
     · rw[if_neg c1] at this ⊢
       by_cases c2:x < q/\q<=k
       · rw[if_pos c2] at this ⊢;exact Q4 this
       · rw[if_neg c2] at this ⊢;exact Q4 this
   obtain⟨g,hg⟩:∃g:Nat->Nat,∀i,p.getD i 0=g i:=⟨_,fun _=>rfl⟩
   have h2':∀i j,i < j->j < k->lt (g i) (g j)=true:=fun i j x y=>by rw[← hg,← hg];exact h2 i j x y
   rw[e,e]
   simp only[hg] at a b ⊢
   clear e
   rcases c2Z j x with hj' | hj' | hj'
   · have hi':i < x:=Nat.lt_trans hij hj'
     rw[if_neg (zC hi'),if_neg (fun z=>Nat.lt_asymm z.1 hi'),if_neg (zC hj'),if_neg (fun z=>Nat.lt_asymm z.1 hj')]
     exact h2' _ _ hij (zP hj' hx)
   · subst hj'
     rw[if_neg (zC hij),if_neg (fun z=>Nat.lt_asymm z.1 hij),if_pos rfl]
     exact a _ hij
   · obtain⟨j',rfl⟩:∃j',j=j'+1:=⟨j - 1,by omega⟩
     have hjk:j' < k:=Nat.lt_of_succ_le (Nat.le_of_lt_succ hj)
     have hxj:x<=j':=Nat.le_of_lt_succ hj'
     rw[if_neg (a5X hj') (c:=j'+1=x),if_pos (c:=x < j'+1/\j'+1<=k) ⟨hj',hjk⟩,Nat.add_sub_cancel]
     rcases c2Z i x with hi' | hi' | hi'
     · rw[if_neg (zC hi'),if_neg (fun z=>Nat.lt_asymm z.1 hi')]
       exact h2' _ _ (zP hi' hxj) hjk
     · rw[if_pos hi']
       exact b _ hxj hjk
     · obtain⟨i',rfl⟩:∃i',i=i'+1:=⟨i - 1,by omega⟩
       have hij':i' < j':=Nat.lt_of_succ_lt_succ hij
       rw[if_neg (a5X hi'),if_pos (c:=x < i'+1/\i'+1<=k) ⟨hi',Nat.lt_trans hij' hjk⟩,Nat.add_sub_cancel]
       exact h2' _ _ hij' hjk
theorem hU (S:Strict n lt) (h1:1<=n):Good n lt (fun q=>Pm n q/\Up lt q n) (kas_sort n):=by
 unfold kas_sort
 refine Good.bind ((bR S (show Pm n _ from .refl _) h1).mono fun r ⟨a,b,c,d⟩=>?_)
 have e:max r.1 1=r.1:=by omega
 rw[e]
 by_cases hr:r.1 < n
 · rw[if_pos hr]
   exact YM S _ c (by omega) d
 · rw[if_neg hr]
   have e:r.1=n:=by omega
   rw[e] at d
   exact⟨c,d⟩
end
end L2
namespace L2
open PySem PySem.Spec PyProof.Rows PySem.W
def TupsN (h:Heap) (vs:List Value) (ns:List Str):Prop:=
 vs.length=ns.length/\∀(i:Nat) (v:Value) (nm:Str),vs[i]?=some v->ns[i]?=some nm->∃(a:Addr) (o:Obj) (xs:Array Value) (k:Nat) (t:Tok),v=a0Z a/\h.get? a=some o/\o.cls = .type "tuple" /\ o.data = .seq xs k/\xs[0]?=some (.str nm t)
theorem TupsN.keep {h h':Heap}{vs:List Value}{ns:List Str}(t:TupsN h vs ns) (hk:∀b o,o.cls = .type "tuple" -> h.get? b=some o->h'.get? b=some o):TupsN h' vs ns:=
 ⟨t.1,fun i v nm e1 e2=>let ⟨a,o,xs,k,t',h1,h2,h3,h4,h5⟩:=t.2 i v nm e1 e2;⟨a,o,xs,k,t',h1,hk a o h3 h2,h3,h4,h5⟩⟩
theorem TupsN.kat {h:Heap}:∀{vs:List Value}{ns:List Str},TupsN h vs ns->∃fs,KatTups h vs fs/\fs.length=ns.length/\∀v∈fs,∃x t,v=b8Z x t
 | [],[],_=>⟨[],trivial,rfl,fun v hv=>nomatch hv⟩
 | [],_::_,t=>by have:=t.1;simp at this
 | _::_,[],t=>by have:=t.1;simp at this
 | v::vs,nm::ns,t=>by
   obtain⟨a,o,xs,k,t',rfl,h2,h3,h4,h5⟩:=t.2 0 v nm rfl rfl
   obtain⟨fs,q1,q2,q3⟩:=TupsN.kat (vs:=vs) (ns:=ns) ⟨by have:=t.1;simpa using this,fun i v nm e1 e2=>t.2 (i+1) v nm (by simpa using e1) (by simpa using e2)⟩
   exact⟨_,KatTups.cons h2 h3 h4 h5 q1,by simp[q2],fun v hv=>(yX.mp hv).elim (fun e=>⟨_,_,e⟩) (q3 v)⟩
section
variable {prog:Program}{w:World}{A:Around}{E:Value->Shared->Prop}{s:Shared}
theorem lZ {vs:List Value}{ns:List Str}(t:TupsN s.heap vs ns) (nd:ns.Nodup) {i j:Nat}(hi:i < ns.length) (hj:j < ns.length) (hij:i≠j) {C:Bool->Shared->Prop}(h:C (decide ((ns.getD i "").cps.toList < (ns.getD j "").cps.toList)) s) :
   kas_ask prog w A (tuples' true) vs i j C s:=by
 unfold kas_ask
 have hl:=t.1
 have e1:vs[i]?=some (vs.getD i a4Q):=by rw[yU,zV (by omega)];rfl
 have e2:vs[j]?=some (vs.getD j a4Q):=by rw[yU,zV (by omega)];rfl
 have f1:ns[i]?=some (ns.getD i ""):=by rw[yU,zV hi];rfl
 have f2:ns[j]?=some (ns.getD j ""):=by rw[yU,zV hj];rfl
 have hne:ns.getD i "" ≠ ns.getD j "" := fun e=>by
   rw[yU,yU,zV hi,zV hj] at e
   rcases Nat.lt_or_gt_of_ne hij with q | q
   · exact List.pairwise_iff_getElem.mp nd i j hi hj q e
   · exact List.pairwise_iff_getElem.mp nd j i hj hi q e.symm
 generalize vs.getD i a4Q=v at e1 ⊢
 generalize vs.getD j a4Q=u at e2 ⊢
 obtain⟨a,o,xs,k,t1,rfl,a2,a3,a4,a5⟩:=t.2 i v _ e1 f1
 obtain⟨b,o',ys,k',t2,rfl,b2,b3,b4,b5⟩:=t.2 j u _ e2 f2
 refine kat_lt a2 a4 b2 b4 ?_
 have x1:xs.toList[0]?=some (.str (ns.getD i "") t1):=by rw[a9Q];exact a5
 have y1:ys.toList[0]?=some (.str (ns.getD j "") t2):=by rw[a9Q];exact b5
 obtain⟨xr,hx⟩:∃r,xs.toList = .str (ns.getD i "") t1::r:=by
   cases hh:xs.toList with
   | nil=>rw[hh] at x1;cases x1
   | cons q r=>rw[hh] at x1;cases x1;exact⟨r,rfl⟩
 obtain⟨yr,hy⟩:∃r,ys.toList = .str (ns.getD j "") t2::r:=by
   cases hh:ys.toList with
   | nil=>rw[hh] at y1;cases y1
   | cons q r=>rw[hh] at y1;cases y1;exact⟨r,rfl⟩
 rw[hx,hy,a6J]
 refine kat_cons (wpAny_eqBool_str ?_)
 rw[decide_eq_false hne]
 refine kat_no ?_
 show wpAny (model prog w) A (oneLt' true _ _) C (fun _ _=>False) s
 exact oneLt_str h
theorem RI {a:Addr}{vs:List Value}{ns:List Str}{n:Nat}{P:PySem.Fin->Shared->Prop}(ho:s.heap.get? a=some (seqObj "list" vs.toArray n)) (t:TupsN s.heap vs ns) (nd:ns.Nodup) (h64:vs.length < 64)
   (h:∀p:List Nat,p.Perm (a3Z vs.length)->(∀i j,i < j->j < vs.length->(ns.getD (p.getD i 0) "").cps.toList < (ns.getD (p.getD j 0) "").cps.toList) ->
     P (.done (.ret .none)) { s with heap:=sortedHeap s.heap a vs (p.map fun i=>vs.getD i a4Q).toArray }) :
   wpAny (model prog w) A (Builtin.«list.sort» ⟨[.ref a],[]⟩) P E s:=by
 have ha:a < s.heap.objs.size:=zM ho
 rw[list_sort_plain];refine zZ (listItems_at ho rfl ?_)
 refine zZ (listUpdate_at ho rfl ?_ (by rw[zJ,sizeLine_eq];omega) (xT _));obtain⟨e1,ho1⟩:∃e1,(s.heap.update a (a9X fun _=>(#[]:Array Value))).get? a=some (seqObj "list" #[] e1):=⟨_,get?_update_seq ho (fun _=>#[])⟩
 refine zZ (seqEpoch_at ho1 rfl (zZ (wpAny_newTuple ?_ (by show vs.length<=_;rw[sizeLine_eq];omega))))
 refine zZ (wpAny_newList (wpAny_holding ?_) (xT _))
 have hsz:vs.toArray.size=vs.length:=zJ ..
 have keepT:∀b o,o.cls = .type "tuple" -> s.heap.get? b=some o->(((s.heap.update a (a9X fun _=>(#[]:Array Value))).push (seqObj "tuple" vs.toArray 0)).push (seqObj "list" #[] 0)).get? b=some o:=fun b o hc q=>by
   have hb:b≠a:=fun e=>by
     subst e
     rw[ho] at q
     cases q
     exact absurd hc (show ¬(Value.type "list"=Value.type "tuple") by decide)
   refine zW _ (zW _ ?_)
   rw[Heap.get?_update_ne _ _ _ _ hb]
   exact q
 have ho6:(((s.heap.update a (a9X fun _=>(#[]:Array Value))).push (seqObj "tuple" vs.toArray 0)).push (seqObj "list" #[] 0)).get? a=some (seqObj "list" #[] e1):=zW _ (zW _ ho1)
 show wpAny (model prog w) A _ P E { s with heap:=((s.heap.update a (a9X fun _=>(#[]:Array Value))).push (seqObj "tuple" vs.toArray 0)).push (seqObj "list" #[] 0) }
 dsimp only
 by_cases h2:vs.toArray.size < 2
 · rw[if_pos h2,if_pos h2]
   refine zZ (zY ?_)
   rw[StateT.run_pure]
   refine zZ (zY (zZ (seqEpoch_at ho6 rfl ?_)))
   have e3:(arrOf (SortSt.mk' general' (vs.toArray.zip vs.toArray) #[] 7 none)).map (·.2)=vs.toArray:=by
     show(vs.toArray.zip vs.toArray).map (·.2)=vs.toArray
     apply Array.toList_inj.mp
     rw[Array.toList_map,Array.toList_zip]
     exact List.map_snd_zip (zR _)
   rw[e3]
   refine zZ (listUpdate_at ho6 rfl ?_ (xT _) (by rw[zJ,sizeLine_eq];omega))
   simp only[bne_self_eq_false,b5K,if_false]
   have:=h (a3Z vs.length) (.refl _) (fun i j hij hj=>by omega)
   have e4:(a3Z vs.length).map (fun i=>vs.getD i a4Q)=vs:=by
     apply b2V
     intro i
     rw[zF]
     by_cases hi:i < vs.length
     · rw[yA hi]
       simp[hi]
     · rw[a1Z (by simp;omega),a1Z (by omega)]
       rfl
   rw[e4] at this
   exact zY this
 · rw[if_neg h2,if_neg h2]
   have h2':2<=vs.length:=by omega
   have t6:=t.keep keepT
   obtain⟨fs,q1,q2,q3⟩:=t6.kat
   refine zZ (kat_kind (T:=.type "str") q1 (by have:=t.1;omega) (fun v hv=>?_) rfl ?_)
   · obtain⟨x,tt,rfl⟩:=q3 v hv
     exact Looks.of_pure rfl
   have hn:vs.length=ns.length:=t.1
   have S:Strict vs.length (fun i j=>decide (i < vs.length)&&(decide (j < vs.length)&&decide ((ns.getD i "").cps.toList < (ns.getD j "").cps.toList))):=by
     refine⟨fun i=>?_,fun i j k a b=>?_,fun i j hi hj hij=>?_⟩
     · simp[List.lt_irrefl]
     · simp only[a0V,decide_eq_true_eq] at a b ⊢
       exact⟨a.1,b.2.1,List.lt_trans a.2.2 b.2.2⟩
     · simp only[a0V,decide_eq_true_eq,hi,hj,true_and]
       have hne:(ns.getD i "").cps.toList≠(ns.getD j "").cps.toList:=fun e=>by
         have e':ns.getD i ""=ns.getD j "" := by
           generalize ns.getD i ""=x at e
           generalize ns.getD j ""=y at e
           obtain⟨⟨x⟩⟩:=x
           obtain⟨⟨y⟩⟩:=y
           simp at e
           rw[e]
         rw[yU,yU,zV (by omega),zV (by omega)] at e'
         rcases Nat.lt_or_gt_of_ne hij with q | q
         · exact List.pairwise_iff_getElem.mp nd i j (by omega) (by omega) q e'
         · exact List.pairwise_iff_getElem.mp nd j i (by omega) (by omega) q e'.symm
       by_cases c:(ns.getD i "").cps.toList < (ns.getD j "").cps.toList
       · exact .inl c
       · refine .inr ?_
         rcases List.le_iff_lt_or_eq.mp (List.not_lt.mp c) with z | z
         · exact z
         · exact absurd z.symm hne
   refine zZ (wpAny_mono (kat_run (ks:=vs) (G:=fun p s'=>s'={ s with heap:=((s.heap.update a (a9X fun _=>(#[]:Array Value))).push (seqObj "tuple" vs.toArray 0)).push (seqObj "list" #[] 0) }/\Pm vs.length p/\Up _ p vs.length)
     (Q:=fun st' s'=>s'={ s with heap:=((s.heap.update a (a9X fun _=>(#[]:Array Value))).push (seqObj "tuple" vs.toArray 0)).push (seqObj "list" #[] 0) }/\failedOf st'=none/\∃p:Array Nat,Pm vs.length p/\Up _ p vs.length/\(arrOf st').map (·.2)=List.toArray (p.toList.map fun i=>vs.getD i a4Q))
     rfl h2' h64 (fun p st' s' a1 a2 a3 a4=>⟨a4.1,a3,p,a4.2.1,a4.2.2,kat_snds rfl a2⟩) ((hU S (by omega)).wp (fun i j C hi hj hij hC=>?_) fun p hp=>⟨rfl,hp.1,hp.2⟩)) ?_ fun _ _ e=>e)
   · refine lZ t6 nd (by omega) (by omega) hij ?_
     simp only[hi,hj,decide_true,Bool.true_and] at hC
     exact hC
   · rintro⟨⟨⟩,st'⟩ s' ⟨rfl,hf,p,hp,hu,hm⟩
     dsimp only
     refine zZ (seqEpoch_at ho6 rfl ?_)
     rw[hm]
     refine zZ (listUpdate_at ho6 rfl ?_ (xT _) (by
       have z:=hp.length_eq
       simp only[xZ,a0K] at z
       simp only[zJ,zX,a0K]
       rw[sizeLine_eq];omega))
     rw[hf]
     simp only[bne_self_eq_false,b5K,if_false]
     refine zY (h p.toList hp fun i j hij hj=>?_)
     have:=hu i j hij hj
     simp only[a0V,decide_eq_true_eq] at this
     have ed:∀k,p.toList.getD k 0=p.getD k 0:=fun k=>by rw[yU,b8J,a9Q]
     rw[ed,ed]
     exact this.2.2
theorem YN {l:Addr}{vs:List Value}{Q:List Value->Shared->Prop}(hl:s.heap.IsList l vs.toArray∨s.heap.IsTuple l vs.toArray)
   (h:Q vs { s with heap:=(s.heap.push (seqObj "list" #[] 0)).update s.heap.objs.size (a9X (·++vs.toArray)) }) (hsz:vs.length<=sizeLine) :
   wpAny (model prog w) A (collect (.ref l)) Q E s:=by
 rcases hl with hl | ⟨o,ho,hc,n,hd⟩
 · exact collect_list hl h hsz
 unfold collect
 refine zZ (wpAny_runValue (codeAny_builtin entry_proto_collect' ?_))
 show wpAny _ _ (do again (.builtin "list.__iadd__" ⟨[← newList [],.ref l],[]⟩)) _ _ s
 refine zZ (wpAny_newList (zY ⟨Code.quiet_builtin _ (by decide +kernel),codeAny_builtin entry_list_iadd' ?_⟩))
 show wpAny _ _ (b0J (.ref s.heap.objs.size) (.ref l) (.ref s.heap.objs.size)) _ _ { s with heap:=s.heap.push (seqObj "list" #[] 0) }
 unfold b0J
 have ho':(s.heap.push (seqObj "list" #[] 0)).get? l=some o:=zW _ ho
 refine zZ (wpAny_typeOf (T:= "tuple") ⟨o,ho',hc⟩ ?_)
 have ht:(Value.type "tuple" == Value.type "tuple")=true:=by rfl
 rw[if_pos (by rw[ht];simp)]
 refine zZ (listItems_at ho' hd ?_)
 refine zZ (listItems_at (xs:=#[]) (n:=0) (yZ _ rfl) rfl ?_)
 rw[if_neg (by simp)]
 refine zZ (listUpdate_at (xs:=#[]) (n:=0) (yZ _ rfl) rfl ?_ (xT _) (by show(#[]++vs.toArray).size<=sizeLine+1;simp only[Array.size_append,zJ,a8X];omega))
 refine zY ?_
 show wpAny (model prog w) A (do
     let o ← load s.heap.objs.size
     match o.data with
     | .seq xs _=>pure xs.toList
     | _=>unsupported "internal:collect") Q E { s with heap:=(s.heap.push (seqObj "list" #[] 0)).update s.heap.objs.size (a9X (·++vs.toArray)) }
 refine zZ (wpAny_load (get?_update_seq (yZ _ rfl) _) ?_)
 show wpAny _ _ (pure ((#[]:Array Value)++vs.toArray).toList) Q E _
 rw[show((#[]:Array Value)++vs.toArray).toList=vs by simp]
 exact zY h
theorem YO {l:Addr}{vs:List Value}{ns:List Str}{Q:Value->Shared->Prop}(hl:s.heap.IsList l vs.toArray∨s.heap.IsTuple l vs.toArray) (t:TupsN s.heap vs ns) (nd:ns.Nodup) (h64:vs.length < 64)
   (h:∀p:List Nat,p.Perm (a3Z vs.length)->(∀i j,i < j->j < vs.length->(ns.getD (p.getD i 0) "").cps.toList < (ns.getD (p.getD j 0) "").cps.toList) ->
     Q (.ref (s.heap.objs.size+1)) { s with heap:=sortedAll s.heap vs (p.map fun i=>vs.getD i a4Q).toArray }) :
   wpAny (model prog w) A (call (.builtin "sorted") [.ref l]) Q E s:=by
 refine Calls.call_function_entry kind_sorted plain_sorted entry_sorted (args_sorted1 _) ?_
 unfold Builtin.«sorted»;refine zZ (m:=checkCount "sorted" 1 1 _) (zY (zZ (YN hl (zZ (wpAny_newList ?_ (by rw[sizeLine_eq];omega))) (by rw[sizeLine_eq];omega))))
 generalize hH:(s.heap.push (seqObj "list" #[] 0)).update s.heap.objs.size (a9X (·++vs.toArray))=H1
 have hsz:H1.objs.size=s.heap.objs.size+1:=by rw[← hH,Heap.size_update,size_push']
 have old:∀b o,s.heap.get? b=some o->(H1.push (seqObj "list" vs.toArray 0)).get? b=some o:=fun b o q=>by
   refine zW _ ?_
   rw[← hH,Heap.get?_update_ne _ _ _ _ (zC (zM q))]
   exact zW _ q
 have hoL:(H1.push (seqObj "list" vs.toArray 0)).get? (s.heap.objs.size+1)=some (seqObj "list" vs.toArray 0):=by
   rw[← hsz];exact yZ _ rfl
 show wpAny _ _ _ _ _ { s with heap:=H1.push (seqObj "list" vs.toArray 0) }
 rw[hsz]
 refine zZ (wpAny_holding (wpAny_call_entry slot_list_sort ⟨_,hoL,rfl⟩ entry_list_sort (RI hoL (t.keep fun b o _ q=>old b o q) nd h64 fun p a1 a2=>⟨_,rfl,?_⟩) (args_list_sort _)))
 have:=h p a1 a2
 unfold sortedAll at this
 rw[hH] at this
 exact zY ⟨_,rfl,this⟩
theorem YQ {d:Addr}{kvs:List (Key×Value)}{ss:List Str}{Q:Value->Shared->Prop}(hh:A.handled=none) (hd:(d==sysModules)=false) (dd:s.heap.DictOf (AM prog w) d kvs) (hk:kvs.map (·.1)=ss.map a1K) (h64:ss.length < 64)
   (h:∀(h1 h':Heap) (tk:Nat) (out:List Value) (e:Nat) (ss':List Str),(∀b o,s.heap.get? b=some o->h1.get? b=some o)->(∀b o,h1.get? b=some o->h'.get? b=some o)->h'.get? h1.objs.size=some (seqObj "list" out.toArray e)->StrsAre out ss'->ss'.Perm ss->sortedS ss'=true->Q (.ref h1.objs.size) { s with heap:=h',toks:=tk }) :
   wpAny (model prog w) A (call (.builtin "sorted") [.ref d]) Q E s:=by
 refine Calls.call_function_entry kind_sorted plain_sorted entry_sorted (args_sorted1 _) ?_
 obtain⟨ep,hat⟩:=dd.dictAt
 have hlen:kvs.length=ss.length:=by have:=congrArg c3Q hk;simpa using this
 unfold Builtin.«sorted»;refine zZ (m:=checkCount "sorted" 1 1 _) (zY (zZ (kdu_collect (A:=A.in1) (kdl_dict (kvs:=kvs) (ep:=ep) hd) hh hat (by rw[hlen,sizeLine_eq];omega) fun h' tk acc hold hacc=>?_)))
 have hl:acc.toList.length=ss.length:=by rw[a0K,hacc.1,hlen]
 have hS:StrsAre acc.toList ss:=by
   have go:∀(vs:List Value) (zs:List Str),vs.length=zs.length->(∀(i:Nat) v x,vs[i]?=some v->zs[i]?=some x->∃t,v=b8Z x t)->StrsAre vs zs:=by
     intro vs
     induction vs with
     | nil=>intro zs hz _;cases zs with
       | nil=>exact .nil
       | cons _ _=>simp at hz
     | cons v vs ih=>intro zs hz hv;cases zs with
       | nil=>simp at hz
       | cons x zs=>
         obtain⟨t,rfl⟩:=hv 0 v x rfl rfl
         exact .cons x t (ih zs (by simpa using hz) fun i v x e1 e2=>hv (i+1) v x (by simpa using e1) (by simpa using e2))
   refine go _ _ hl fun i v x e1 e2=>?_
   obtain⟨k,y,g1,g2⟩:=hacc.2 i v (by rw[← a9Q];exact e1)
   have e3:(kvs.map (·.1))[i]?=some k:=by rw[zF,g1];rfl
   rw[hk,zF,e2] at e3
   cases e3
   have g2':KZ (.inr x) v=true:=g2
   rcases AS g2' with ⟨i,t,e,_⟩ | ⟨z,t,e,e'⟩
   · cases e
   · cases e;exact⟨t,e'⟩
 refine zZ (wpAny_newList ?_ (by rw[hl,sizeLine_eq];omega))
 have hoL:(h'.push (seqObj "list" acc.toList.toArray 0)).get? h'.objs.size=some (seqObj "list" acc.toList.toArray 0):=yZ _ rfl
 show wpAny _ _ _ _ _ { s with heap:=h'.push (seqObj "list" acc.toList.toArray 0),toks:=tk }
 refine zZ (wpAny_holding (wpAny_call_entry (s:={ s with heap:=h'.push (seqObj "list" acc.toList.toArray 0),toks:=tk }) slot_list_sort ⟨_,hoL,rfl⟩ entry_list_sort (list_sort_treeK strKind_oneLt hoL hS.keysOf (fun v₁ v₂ rest e=>keyKind_strs (by rw[← e];exact hS)) (by rw[hl];exact h64) fun st' hp hs=>⟨_,rfl,?_⟩) (args_list_sort _)))
 obtain⟨ss',h1,h2,h3⟩:=sorted_out_str hS hp hs
 obtain⟨e,he⟩:=sortedHeap_at (out:=(arrOf st').map (·.2)) hoL
 refine zY ⟨_,rfl,h h' _ tk ((arrOf st').map (·.2)).toList e ss' hold (fun b o q=>?_) (by rw[Array.toArray_toList];exact he) h1 h2 h3⟩
 have lt:b < h'.objs.size:=zM q
 rw[sortedHeap_old (zC lt) (by rw[size_push'];exact c2J lt)]
 exact zW _ q
end
end L2
namespace L2
open PySem PySem.Spec PyProof.Rows
def tlD (prog:Program) (w:World) (A:Around) (kx vx:Expr):Env->Addr->(Shared->Prop)->Shared->Prop:=fun env D P s=>wpAny (model prog w) A (eval kx env) (fun kv s₄=>wpAny (model prog w) A (eval vx env) (fun vv s₅=>wpAny (model prog w) A (dictSet D kv vv) (fun _ s₆=>P s₆) (fun _ _=>False) s₅) (fun _ _=>False) s₄) (fun _ _=>False) s
theorem qH {prog:Program}{w:World}{A:Around}{kx vx target iter:Expr}{ifs:List Expr}{scope:Scope}{pos:Pos}:aP prog w A (.DictComp kx vx [⟨target,iter,ifs,0⟩] scope pos) target ifs (tlD prog w A kx vx):=by
 intro it D env R I turn n s h
 refine codeAny_loop rfl I (fun n s hI=>?_) n h
 show wpAny _ A ((compTurn (.DictComp kx vx [⟨target,iter,ifs,0⟩] scope pos) 0 (.ref it) (.ref D) env).onRaise (fun x=>do noteFrame x env;theTreesLotGoes x)) _ _ s
 refine wpAny_noted ?_
 rw[compTurn_dict]
 refine zZ (wpAny_standAt (zZ (wpAny_mono (B0 (turn n s hI)) (fun r s₁ h₁=>?_) fun _ _ h'=>h')))
 cases r with
 | none=>exact zY h₁
 | some v=>
   refine zZ (wpAny_mono (B0 h₁) (fun _ s₀ h₀=>?_) fun _ _ h'=>h')
   refine zZ (wpAny_mono (B0 h₀) (fun _ s₂ h₂=>zZ (wpAny_mono (B0 h₂) (fun ok s₃ h₃=>?_) fun _ _ h'=>h')) fun _ _ h'=>h')
   cases ok with
   | false=>exact zY ⟨rfl,h₃⟩
   | true=>
     exact zZ (zZ (wpAny_mono (B0 h₃) (fun kv s₄ h₄=>zZ (wpAny_holding (wpAny_mono (B0 h₄) (fun vv s₅ h₅=>zZ (wpAny_standAt (wpAny_holding (wpAny_mono (B0 h₅) (fun _ s₆ h₆=>zY ⟨rfl,h₆⟩) fun _ _ h'=>h')))) fun _ _ h'=>h'))) fun _ _ h'=>h'))
theorem wQ {X:Cx}{pins:List (Addr×Obj)}{σ:St}{H:Hp}{s:Shared}{a:Addr}{kvs:List (Key×V)}{k:Key}{v:V}{u r:Value}{A:Around}{E:Value->Shared->Prop}{Q:Unit->Shared->Prop}
   (I:Inv X pins σ H s) (e:H a=some (.dK kvs)) (l:kvs.length < sizeLine) (ry:RelV (kV k) u) (rv:RelV v r) (h:∀s',Inv X pins σ (upd H a (.dK (EU kvs k v))) s'->Q () s'):wpAny (model X.prog X.w) A (dictSet a u r) Q E s:=by
 obtain⟨z,hd,vs,rel,dd⟩:=XR I.hok e
 have hz:vs.length<=sizeLine:=by rw[← rel.length];exact z
 have hl:(EU kvs k v).length<=sizeLine:=by have:=G8 kvs k v;omega
 refine wpAny_dictSet_pairs (hsz:=hz) (L1 ry) dd fun h' dd' hs=>h _ ?_
 have he:∃q,h'.get? a=some q:=let ⟨q,_,_,hq,_⟩:=dd';⟨q,hq⟩
 exact KG I (by rw[e];exact a8W) hs he (QG hl hd (rel.put k rv) dd')
def bS (fr:List (Option Nat)) (wi:TI) (g:TG) (tt:TT) (tk tv:TE):TE:=fun σ H Q=>wi σ H fun J H1=>∀D,H1 D=none->∃W:Nat->Nat->List (Key×V)->Hp->Prop,(∃m,W 0 m [] (upd H1 D (.dK []))) /\
 ∀i m ys H2,W i m ys H2->H2 D=some (.dK ys)/\((J.stop i H2/\Q (.ref D) H2)∨(J.go i H2/\∀x H3,J.yld i H2 x H3->g x (capt fr σ) H3 fun σ2 H4=>
   (∀(i:Nat) v,(capt fr σ)[i]?=some (some v)->σ2[i]?=some (some v))/\tt σ2 H4 fun c H5=>if c=true then tk σ2 H5 fun x H6=>tv σ2 H6 fun y H7=>∃ys' k,x=kV k/\H7 D=some (.dK ys')/\ys'.length < sizeLine/\∃m',m' < m/\W (i+1) m' (EU ys' k y) (upd H7 D (.dK (EU ys' k y)))
     else ∃ys' m',m' < m/\W (i+1) m' ys' H5))
section
variable {X:Cx}{scope:Scope}{NC:List Str}{fr:List (Option Nat)}{pins:List (Addr×Obj)}{σ:St}{H:Hp}{s:Shared}
theorem hX {kx vx iter tg:Expr}{ifs:List Expr}{pos cpos:Pos}{wi:TI}{g:TG}{tt:TT}{tk tv:TE}{use:Option (Value->Sem Unit)}{Q:VK}{QQ:Value->Shared->Prop}
   (hc:X.calm=true) (S:CSc X scope NC fr) (hi:PI X tg iter wi)
   (hb:∀(C:Addr) (s:Shared) (H:Hp) (ex:List Addr) (pn:List (Addr×Obj)),PG (B4 X scope NC C s H ex pn) tg g/\PTs (B4 X scope NC C s H ex pn) ifs tt/\PE (B4 X scope NC C s H ex pn) kx tk/\PE (B4 X scope NC C s H ex pn) vx tv)
   (I:Inv X pins σ H s) (hu:X.A.units+1 < cLine) (h:bS fr wi g tt tk tv σ H Q)
   (fin:uL X pins σ use Q QQ)
   (hs:∀x,foldedSetIterable iter X.env x=pure x) :
   wpAny (model X.prog X.w) X.A (comprehension (.DictComp kx vx [⟨tg,iter,ifs,0⟩] scope pos) scope X.env cpos newDict false (eval iter X.env) use) QQ X.xe s:=by
 refine U9 (y0:=[]) (at_:=.dK) (Ty:= "dict") (dt:=.dict #[]) (tl:=tlD X.prog X.w X.A kx vx) (el:=fun D m W σ2 H5=>tk σ2 H5 fun x H6=>tv σ2 H6 fun y H7=>∃ys' k,x=kV k/\H7 D=some (.dK ys')/\ys'.length < sizeLine/\∃m',m' < m/\W m' (EU ys' k y) (upd H7 D (.dK (EU ys' k y)))) rfl rfl (by size_fits) (fun H h b=>XU h b) qH codeAny_compStart_dict hc S hi (fun C s H ex pn=>⟨(hb C s H ex pn).1,(hb C s H ex pn).2.1,fun pn' s' σ H' D n W P I q k=>?_⟩) I h fin hs
 refine thn ((hb C s H ex pn).2.2.1 _ s' σ H' _ I q) fun yk s10 ⟨kv,H10,I10,r10,q10⟩=>thn ((hb C s H ex pn).2.2.2 _ s10 σ H10 _ I10 q10) fun yv s11 ⟨vv,H11,I11,r11,ys',kk,ek,hD,hsz,m',hm',w'⟩=>?_
 subst ek
 exact wQ (X:=B4 X scope NC C s H ex pn) I11 hD hsz r10 r11 fun s' I'=>k m' _ _ _ hm' w' I'
theorem m3 {kx vx iter tg:Expr}{ifs:List Expr}{pos:Pos}{wi:TI}{g:TG}{tt:TT}{tk tv:TE}(hc:X.calm=true) (hu:X.A.units+1 < cLine) (S:CSc X scope NC fr) (hi:PI X tg iter wi)
   (hb:∀(C:Addr) (s:Shared) (H:Hp) (ex:List Addr) (pn:List (Addr×Obj)),PG (B4 X scope NC C s H ex pn) tg g/\PTs (B4 X scope NC C s H ex pn) ifs tt/\PE (B4 X scope NC C s H ex pn) kx tk/\PE (B4 X scope NC C s H ex pn) vx tv)
   (hs:∀x,foldedSetIterable iter X.env x=pure x:=by intro _;rfl):PE X (.DictComp kx vx [⟨tg,iter,ifs,0⟩] scope pos) (bS fr wi g tt tk tv):=by
 intro pins s σ H Q I h
 rw[arm_eval_DictComp]
 refine hX (use:=none) (Q:=Q) hc S hi hb I hu h (fun D C H' s' m oC I' hn q back _ h' sb=>?_) hs
 exact⟨.ref D,H',back pins σ H' s' h' I' sb,rfl,q⟩
end
end L2
namespace L2
open PySem PySem.Spec PyProof.Rows PySem.W
def m4 (K:Frg):List V->Hp->VK->Prop:=fun xs H Q=>∃(p:Addr) (es:List (Addr×Str×List V)),xs=[.ref p]/\(SqL K H p (es.map fun e=>V.ref e.1)∨SqT K H p (es.map fun e=>V.ref e.1))/\(∀e∈es,SqT K H e.1 (.str e.2.1::e.2.2))/\(es.map fun e=>e.2.1).Nodup/\es.length < 64 /\
 ∀(es':List (Addr×Str×List V)) (q:Addr),es'.Perm es->es'.Pairwise (fun x y=>x.2.1.cps.toList < y.2.1.cps.toList)->H q=none->Q (.ref q) (upd H q (.lst (es'.map fun e=>V.ref e.1)))
def m5:List V->Hp->VK->Prop:=fun xs H Q=>∃(p:Addr) (kvs:List (Key×V)) (ss:List Str),xs=[.ref p]/\Rd H p (.dK kvs)/\kvs.map (·.1)=ss.map a1K/\ss.length < 64 /\
 ∀(ss':List Str) (q:Addr),ss'.Perm ss->sortedS ss'=true->H q=none->Q (.ref q) (upd H q (.lst (ss'.map V.str)))
def RJ (K:Frg):List V->Hp->VK->Prop:=fun xs H Q=>kL K xs H Q∨m4 K xs H Q∨m5 xs H Q
section
variable {X:Cx}
theorem US:∀{es:List (Addr×Str×List V)}{its:List Value},Vals (es.map fun e=>V.ref e.1) its->its=es.map fun e=>a0Z e.1
 | [],_,.nil=>rfl
 | _::_,_,.cons r t=>by rw[US t];cases r;rfl
theorem UT:∀{es:List (Addr×Str×List V)},Vals (es.map fun e=>V.ref e.1) (es.map fun e=>a0Z e.1)
 | []=>.nil
 | _::_=>.cons rfl UT
theorem bT:BQ X (.builtin "sorted") (m4 X.K):=by
 intro pins s σ H xs us Q I r h
 obtain⟨p,es,rfl,hp,ht,nd,h64,q⟩:=h
 obtain⟨u,rfl,ru⟩:=D0 r
 cases ru
 obtain⟨its,rv,pl⟩:∃its:List Value,Vals (es.map fun e=>V.ref e.1) its/\(s.heap.IsList p its.toArray∨s.heap.IsTuple p its.toArray):=by
   rcases hp with hp | hp
   · obtain⟨its,rv,pl,_⟩:=I.list hp
     exact⟨its,rv,.inl pl.isList⟩
   · obtain⟨its,rv,pl,_⟩:=I.tuple hp
     exact⟨its,rv,.inr pl⟩
 have ei:=US rv
 subst ei
 have tn:TupsN s.heap (es.map fun e=>a0Z e.1) (es.map fun e=>e.2.1):=by
   refine⟨by simp,fun i v nm e1 e2=>?_⟩
   rw[zF] at e1 e2
   cases he:es[i]? with
   | none=>rw[he] at e1;cases e1
   | some e=>
     rw[he] at e1 e2
     cases e1
     cases e2
     obtain⟨js,rj,⟨o,ho,hc,n,hd⟩,_⟩:=I.tuple (ht e (yN he))
     cases rj with
     | cons r0 _=>
       obtain⟨t,rfl⟩:=r0
       exact⟨e.1,o,_,n,t,rfl,ho,hc,hd,by simp⟩
 refine YO pl tn nd (by simpa using h64) fun pm h1 h2=>?_
 simp only[zX] at h1 h2
 obtain⟨e,he⟩:=sortedAll_at s.heap (es.map fun e=>a0Z e.1) (pm.map fun i=>(es.map fun e=>a0Z e.1).getD i a4Q).toArray
 have hn:H (s.heap.objs.size+1)=none:=I.hok.fresh (b9K _)
 obtain⟨es',he'⟩:∃es':List (Addr×Str×List V),es'=pm.filterMap fun i=>es[i]?:=⟨_,rfl⟩
 have hin:∀i∈pm,i < es.length:=fun i hi=>List.mem_range.mp (h1.mem_iff.mp hi)
 have emap:∀(l:List Nat),(∀i∈l,i < es.length)->(l.filterMap fun i=>es[i]?)=l.attach.map fun i=>es.getD i.1 (0, "", []):=fun l=>by
   intro hl
   induction l with
   | nil=>rfl
   | cons a l ih=>
     have ha:=hl a (by simp)
     rw[b0W,zV ha]
     simp only[List.attach_cons,zI,zD]
     rw[ih fun i hi=>hl i (yV _ hi)]
     simp[yU,zV ha]
 have emap':es'=pm.map fun i=>es.getD i (0, "", []):=by
   rw[he',emap pm hin]
   simp
 have perm:es'.Perm es:=by
   rw[he']
   refine(h1.filterMap _).trans ?_
   rw[show((a3Z es.length).filterMap fun i=>es[i]?)=es from ?_]
   apply b2V
   intro i
   have:((a3Z es.length).filterMap fun i=>es[i]?)=(a3Z es.length).map fun i=>es.getD i (0, "", []):=by
     rw[emap _ fun i hi=>List.mem_range.mp hi]
     simp
   rw[this,zF]
   by_cases hi:i < es.length
   · rw[yA hi]
     simp[hi]
   · rw[a1Z (by simp;omega),a1Z (by omega)]
     rfl
 have outs:(pm.map fun i=>(es.map fun e=>a0Z e.1).getD i a4Q)=es'.map fun e=>a0Z e.1:=by
   rw[emap',zD]
   apply yM
   intro i hi
   have hi:=hin i hi
   simp[yU,zF,zV hi]
 have lenp:pm.length=es.length:=by have:=h1.length_eq;simpa using this
 have srt:es'.Pairwise (fun x y=>x.2.1.cps.toList < y.2.1.cps.toList):=by
   rw[emap',b2W,List.pairwise_iff_getElem]
   intro i j hi hj hij
   have:=h2 i j hij (by omega)
   have g:∀k (hk:k < pm.length),(es.map fun e=>e.2.1).getD (pm.getD k 0) (a0Q "")=(es.getD pm[k] (0, "", [])).2.1:=fun k hk=>by
     have hk':=hin pm[k] (b7Q hk)
     rw[yU (l:=pm),zV hk]
     simp[yU,zF,zV hk']
   rw[g i hi,g j hj] at this
   exact this
 rw[outs] at he ⊢
 refine⟨.ref (s.heap.objs.size+1),_,I.laid (t':=s.toks) (o:=.lst (es'.map fun e=>V.ref e.1)) (fun b o eb=>sortedAll_old eb) (b9K _) ?_,rfl,q es' _ perm srt hn⟩
 refine⟨by rw[zX,perm.length_eq];exact zN (xR h64) (by decide),es'.map fun e=>a0Z e.1,e,UT,?_⟩
 have he':=he
 simpa [seqObj] using he'
theorem bU (hc:X.calm=true):BQ X (.builtin "sorted") m5:=by
 intro pins s σ H xs us Q I r h
 obtain⟨p,kvs,ss,rfl,hp,hk,h64,q⟩:=h
 obtain⟨u,rfl,ru⟩:=D0 r
 cases ru
 obtain⟨z,hd,vs,rel,dd⟩:=MH I.hok hp
 have hk':vs.map (·.1)=ss.map a1K:=by
   rw[← hk]
   clear hk dd z hp q
   unfold KV at rel
   induction rel with
   | nil=>rfl
   | cons h t ih=>simp[h.1,ih]
 refine YQ (I.ok.hd hc) hd dd hk' h64 fun h1 h' tk out e ss' k1 k2 ho hS hperm hsort=>?_
 have I1:Inv X pins σ H { s with heap:=h1,toks:=tk }:=I.kept k1
 have hn:H h1.objs.size=none:=I1.hok.fresh (zR _)
 refine⟨.ref h1.objs.size,_,I1.laid (t':=tk) (o:=.lst (ss'.map V.str)) (h':=h') k2 (zR _) ?_,rfl,q ss' _ hperm hsort hn⟩
 refine⟨by rw[zX,hperm.length_eq];exact zN (xR h64) (by decide),out,e,kK hS,?_⟩
 simpa [seqObj] using ho
theorem bV (hc:X.calm=true):BQ X (.builtin "sorted") (RJ X.K):=by
 intro pins s σ H xs us Q I r h
 rcases h with h | h | h
 · exact aT pins s σ H xs us Q I r h
 · exact bT pins s σ H xs us Q I r h
 · exact bU hc pins s σ H xs us Q I r h
end
end L2
namespace DL
open PySem PySem.Spec L2
def AW (ts:List (Str×PyData)):List (PyData×PyData):=ts.map fun t=>(a0X t.1,t.2)
def YR (ts:List (Str×PyData)) (k:Str) (d:PyData):List (Str×PyData):=
 if (ts.any fun t=>decide (t.1=k))=true then ts.map (fun t=>if t.1=k then (t.1,d) else t) else ts++[(k,d)]
def UU (ts:List (Str×PyData)) (k:Str):List (Str×PyData):=ts.filter fun t=>decide (t.1≠k)
def CL:List (Str×PyData)->Str->Option PyData
 | [],_=>none
 | t::r,k=>if t.1=k then some t.2 else CL r k
section
variable {K:Frg}{H:Hp}{W:Addr->Prop}
theorem CD {t:Str×PyData}{ts:List (Str×PyData)}{ks:List (Key×V)}:DKV K H W (AW (t::ts)) ks↔∃v r,ks=(a1K t.1,v)::r/\DV K H W t.2 v/\DKV K H W (AW ts) r:=by
 unfold AW
 rw[zI]
 constructor
 · intro h
   unfold DKV at h
   obtain⟨k',v,r,e,e2,h1,h2⟩:=h
   cases k' with
   | inl i=>cases e2
   | inr x=>
     have e3:t.1=x:=by simpa [jU] using e2
     subst e3
     exact⟨v,r,e,h1,h2⟩
 · rintro⟨v,r,e,h1,h2⟩
   unfold DKV
   exact⟨a1K t.1,v,r,e,rfl,h1,h2⟩
theorem F9 {ks:List (Key×V)}:DKV K H W (AW []) ks↔ks=[]:=by unfold AW;simp only[a7W];unfold DKV;exact Iff.rfl
theorem YS:∀{ts:List (Str×PyData)}{ks:List (Key×V)},DKV K H W (AW ts) ks->ks.map (·.1)=(ts.map (·.1)).map a1K
 | [],ks,h=>by rw[F9.mp h];rfl
 | t::ts,ks,h=>by obtain⟨v,r,rfl,_,h2⟩:=CD.mp h;simp[YS h2]
theorem eJ {k:Str}:∀{ts:List (Str×PyData)}{ks:List (Key×V)},DKV K H W (AW ts) ks->(ks.any fun kv=>decide (kv.1=a1K k))=ts.any fun t=>decide (t.1=k)
 | [],ks,h=>by rw[F9.mp h];rfl
 | t::ts,ks,h=>by
   obtain⟨v,r,rfl,_,h2⟩:=CD.mp h
   rw[b5J,b5J,eJ h2]
   congr 1
   by_cases e:t.1=k
   · rw[decide_eq_true e,decide_eq_true (by rw[e])]
   · rw[decide_eq_false e,decide_eq_false fun q=>e (by injection q)]
theorem RK {k:Str}{d:PyData}{v:V}(hd:DV K H W d v):∀{ts:List (Str×PyData)}{ks:List (Key×V)},DKV K H W (AW ts) ks ->
   DKV K H W (AW (ts.map fun t=>if t.1=k then (t.1,d) else t)) (ks.map fun kv=>if kv.1=a1K k then (kv.1,v) else kv)
 | [],ks,h=>by rw[F9.mp h];exact F9.mpr rfl
 | t::ts,ks,h=>by
   obtain⟨u,r,rfl,h1,h2⟩:=CD.mp h
   rw[zI,zI]
   by_cases e:t.1=k
   · rw[if_pos e,if_pos (by rw[e])]
     exact CD.mpr ⟨v,_,rfl,hd,RK hd h2⟩
   · rw[if_neg e,if_neg fun q=>e (by injection q)]
     exact CD.mpr ⟨u,_,rfl,h1,RK hd h2⟩
theorem YT {k:Str}{d:PyData}{v:V}(hd:DV K H W d v):∀{ts:List (Str×PyData)}{ks:List (Key×V)},DKV K H W (AW ts) ks->DKV K H W (AW (ts++[(k,d)])) (ks++[(a1K k,v)])
 | [],ks,h=>by rw[F9.mp h];exact CD.mpr ⟨v,[],rfl,hd,F9.mpr rfl⟩
 | t::ts,ks,h=>by
   obtain⟨u,r,rfl,h1,h2⟩:=CD.mp h
   exact CD.mpr ⟨u,_,rfl,h1,YT hd h2⟩
theorem eL {k:Str}{d:PyData}{v:V}{ts:List (Str×PyData)}{ks:List (Key×V)}(h:DKV K H W (AW ts) ks) (hd:DV K H W d v):DKV K H W (AW (YR ts k d)) (EU ks (a1K k) v):=by
 unfold YR EU
 rw[eJ h]
 by_cases c:(ts.any fun t=>decide (t.1=k))=true
 · rw[if_pos c,if_pos c];exact RK hd h
 · rw[if_neg c,if_neg c];exact YT hd h
theorem RL {k:Str}:∀{ts:List (Str×PyData)}{ks:List (Key×V)},DKV K H W (AW ts) ks->DKV K H W (AW (UU ts k)) (MF ks (a1K k))
 | [],ks,h=>by rw[F9.mp h];exact F9.mpr rfl
 | t::ts,ks,h=>by
   obtain⟨u,r,rfl,h1,h2⟩:=CD.mp h
   have ih:=RL (k:=k) h2
   unfold UU MF at ih ⊢
   by_cases e:t.1=k
   · rw[a8V,a8V,if_neg (by simp[e]),if_neg (by simp[e])]
     exact ih
   · rw[a8V,a8V,if_pos (by simpa using e),if_pos (by simp;exact e)]
     exact CD.mpr ⟨u,_,rfl,h1,ih⟩
theorem H0 {k:Str}:∀{ts:List (Str×PyData)}{ks:List (Key×V)},DKV K H W (AW ts) ks->(∃d v,CL ts k=some d/\FP ks (a1K k)=some v/\DV K H W d v)∨(CL ts k=none/\FP ks (a1K k)=none)
 | [],ks,h=>by rw[F9.mp h];exact .inr ⟨rfl,rfl⟩
 | t::ts,ks,h=>by
   obtain⟨u,r,rfl,h1,h2⟩:=CD.mp h
   by_cases e:t.1=k
   · exact .inl ⟨t.2,u,by simp[CL,e],MG (by rw[e]),h1⟩
   · have e':¬(a1K t.1:Key)=a1K k:=fun q=>e (by injection q)
     rcases H0 (k:=k) h2 with ⟨d,v,a1,a2,a3⟩ | ⟨a1,a2⟩
     · exact .inl ⟨d,v,by simp[CL,e,a1],by rw[J5 (p:=(a1K t.1,u)) e'];exact a2,a3⟩
     · exact .inr ⟨by simp[CL,e,a1],by rw[J5 (p:=(a1K t.1,u)) e'];exact a2⟩
theorem W6:∀{kvs:List (PyData×PyData)}{ks:List (Key×V)},DKV K H W kvs ks->ks.length=kvs.length
 | [],ks,h=>by unfold DKV at h;subst h;rfl
 | (k,d)::r,ks,h=>by unfold DKV at h;obtain⟨_,_,_,rfl,_,_,h2⟩:=h;simp[W6 h2]
end
section
variable {K:Frg}{M:Own}{Q:DS->Own->Prop}{ρ:List (Option DS)}{H:Hp}{td ty tv:TE}{D:EndsD}
theorem MT (h:DE K td ρ M fun x M1=>DE K ty ρ M1 fun y M2=>∃(a:Addr) (ts:List (Str×PyData)) (k:Str) (d:PyData),x = .loc a/\y = .d (.str k)/\M2 a=some (.d (AW ts))/\CL ts k=some d/\Q (.d d) M2):DE K (sH td ty) ρ M Q:=fun σ H QQ R kk=>
 h σ H _ R fun v H1 x M1 o1 s1 t1 h1=>h1 σ H1 _ (R.step o1 t1) fun u H2 y M2 o2 s2 t2 h2=>by
   obtain⟨a,ts,k,d,rfl,rfl,m,l,q⟩:=h2
   unfold SI at s1
   subst s1
   rw[AO s2]
   obtain⟨ks,e1,e2⟩:=o2 a _ m
   rcases H0 (k:=k) e2 with ⟨d',w',a1,a2,a3⟩ | ⟨a1,a2⟩
   · rw[l] at a1
     cases a1
     exact⟨a,w',rfl,.inl ⟨ks,a1K k,.inl e1,rfl,a2.symm⟩,kk _ H2 (.d d) M2 o2 a3 (t1.trans t2) q⟩
   · rw[l] at a1;cases a1
theorem qI (h:DE K ty ρ M fun y M1=>DE K td ρ M1 fun x M2=>∃(a:Addr) (ts:List (Str×PyData)) (k:Str),x = .loc a/\y = .d (.str k)/\M2 a=some (.d (AW ts))/\Q (.d (.bool (CL ts k).isSome)) M2):DE K (zS ty td) ρ M Q:=fun σ H QQ R kk=>
 h σ H _ R fun v H1 x M1 o1 s1 t1 h1=>h1 σ H1 _ (R.step o1 t1) fun u H2 y M2 o2 s2 t2 h2=>by
   obtain⟨a,ts,k,rfl,rfl,m,q⟩:=h2
   unfold SI at s2
   subst s2
   rw[AO s1]
   obtain⟨ks,e1,e2⟩:=o2 a _ m
   refine⟨a,FP ks (a1K k),rfl,.inl ⟨ks,a1K k,.inl e1,rfl,rfl⟩,kk _ H2 _ M2 o2 ?_ (t1.trans t2) q⟩
   rcases H0 (k:=k) e2 with ⟨d',w',a1,a2,a3⟩ | ⟨a1,a2⟩
   · rw[a1,a2];exact AJ
   · rw[a1,a2];exact AJ
theorem MU (h:DE K tv ρ M fun z M1=>DE K td ρ M1 fun x M2=>DE K ty ρ M2 fun y M3=>∃(a:Addr) (ts:List (Str×PyData)) (k:Str) (d:PyData),z = .d d/\x = .loc a/\y = .d (.str k)/\M3 a=some (.d (AW ts))/\ts.length < sizeLine/\D.nx ρ (M3.put a (.d (AW (YR ts k d))))):DSt K (sI td ty tv) ρ M D:=fun σ H E R k1 k2 k3 k4=>
 h σ H _ R fun v H1 z M1 o1 s1 t1 h1=>h1 σ H1 _ (R.step o1 t1) fun u H2 x M2 o2 s2 t2 h2=>h2 σ H2 _ (R.step o2 (t1.trans t2)) fun yv H3 y M3 o3 s3 t3 h3=>by
   obtain⟨a,ts,k,d,rfl,rfl,rfl,m,hl,q⟩:=h3
   unfold SI at s2
   subst s2
   rw[AO s3]
   obtain⟨ks,e1,e2⟩:=o3 a _ m
   have hd:DV K H3 M3.W d v:=DV.grow (t2.trans t3).grow s1
   obtain⟨o4,t4⟩:=FQ o3 m (eL (k:=k) e2 hd)
   have hlen:ks.length < sizeLine:=by rw[W6 e2];unfold AW;rw[zX];exact hl
   have ta:=((t1.trans t2).trans t3).trans t4
   exact⟨a,_,rfl,.inl ⟨ks,a1K k,e1,rfl,hlen,rfl⟩,k1 ρ _ σ _ (R.step o4 ta) ta q⟩
theorem eO (h:DE K td ρ M fun x M1=>DE K ty ρ M1 fun y M2=>∃(a:Addr) (ts:List (Str×PyData)) (k:Str),x = .loc a/\y = .d (.str k)/\M2 a=some (.d (AW ts))/\(CL ts k).isSome=true/\D.nx ρ (M2.put a (.d (AW (UU ts k))))):DSt K (sJ td ty) ρ M D:=fun σ H E R k1 k2 k3 k4=>
 h σ H _ R fun v H1 x M1 o1 s1 t1 h1=>h1 σ H1 _ (R.step o1 t1) fun u H2 y M2 o2 s2 t2 h2=>by
   obtain⟨a,ts,k,rfl,rfl,m,l,q⟩:=h2
   unfold SI at s1
   subst s1
   rw[AO s2]
   obtain⟨ks,e1,e2⟩:=o2 a _ m
   obtain⟨o4,t4⟩:=FQ o2 m (RL (k:=k) e2)
   have ta:=(t1.trans t2).trans t4
   refine⟨a,ks,a1K k,rfl,e1,rfl,?_,k1 ρ _ σ _ (R.step o4 ta) ta q⟩
   rcases H0 (k:=k) e2 with ⟨d',w',a1,a2,a3⟩ | ⟨a1,a2⟩
   · rw[a2];rfl
   · rw[a1] at l;cases l
theorem qJ (h:DE K td ρ M fun x M1=>∃(a:Addr) (ts0:List (Str×PyData)),x = .loc a/\M1 a=some (.d (AW ts0))/\DE K ty ρ M1 fun y M2=>∃(ts:List (Str×PyData)) (k:Str) (d:PyData),y = .d (.str k)/\M2 a=some (.d (AW ts))/\CL ts k=some d/\Q (.d d) (M2.put a (.d (AW (UU ts k))))):DE K (jM td ty) ρ M Q:=fun σ H QQ R kk=>
 h σ H _ R fun v H1 x M1 o1 s1 t1 h1=>by
   obtain⟨a,ts0,rfl,m0,h1⟩:=h1
   unfold SI at s1
   subst s1
   obtain⟨ks0,e0,_⟩:=o1 a _ m0
   refine⟨a,rfl,.inl ⟨ks0,.inl e0⟩,h1 σ H1 _ (R.step o1 t1) fun u H2 y M2 o2 s2 t2 h2=>?_⟩
   obtain⟨ts,k,d,rfl,m,l,q⟩:=h2
   rw[AO s2]
   obtain⟨ks,e1,e2⟩:=o2 a _ m
   rcases H0 (k:=k) e2 with ⟨d',w',a1,a2,a3⟩ | ⟨a1,a2⟩
   · rw[l] at a1
     cases a1
     obtain⟨o4,t4⟩:=FQ o2 m (RL (k:=k) e2)
     exact⟨ks,a1K k,w',e1,rfl,a2,kk _ _ (.d d) _ o4 (DV.grow t4.grow a3) ((t1.trans t2).trans t4) q⟩
   · rw[l] at a1;cases a1
theorem m6 {a:Addr}{ts:List (Str×PyData)}(m:M a=some (.d (AW ts))) (h64:ts.length < 64) (q:∀ss:List Str,ss.Perm (ts.map (·.1))->xG ss=true->Q (.d (.list (ss.map .str))) M):DR K (RJ K) [.loc a] M Q:=fun H vs QQ oa s k=>by
 obtain⟨v,r,rfl,h1,h2⟩:=s
 cases h2
 unfold SI at h1
 subst h1
 obtain⟨ks,e1,e2⟩:=oa a _ m
 refine .inr (.inr ⟨a,ks,ts.map (·.1),rfl,.inl e1,YS e2,by rw[zX];exact h64,fun ss' p h3 h4 hp=>?_⟩)
 have g:Grow K M.W M.W H (upd H p (.lst (ss'.map V.str))):=AU _ hp
 refine k _ _ (.d (.list (ss'.map .str))) M (oa.new hp) ?_ ⟨g⟩ (q ss' h3 h4)
 unfold SI DV
 exact⟨p,_,rfl,.inl ⟨fun w=>w (oa.none hp),.inl AH⟩,J8⟩
def O1 (t:Str×List PyData):PyData:=.tuple (.str t.1::t.2)
theorem YU {W:Addr->Prop}:∀{ts:List (Str×List PyData)}{vs:List V},DVs K H W (ts.map O1) vs->∃es:List (Addr×Str×List V),vs=es.map (fun e=>V.ref e.1)/\es.map (fun e=>e.2.1)=ts.map (·.1)/\(∀e∈es,SqT K H e.1 (.str e.2.1::e.2.2)) /\
   es.length=ts.length/\∀(i:Nat) e t,es[i]?=some e->ts[i]?=some t->DV K H W (O1 t) (.ref e.1)/\e.2.1=t.1
 | [],vs,h=>by unfold DVs at h;subst h;exact⟨[],rfl,rfl,(fun e he=>by simp at he),rfl,fun i e t h1 h2=>by simp at h1⟩
 | t::ts,vs,h=>by
   rw[zI] at h
   unfold DVs at h
   obtain⟨v,r,rfl,h1,h2⟩:=h
   obtain⟨es,rfl,e2,e3,e4,e5⟩:=YU h2
   have h1':=h1
   unfold O1 DV at h1'
   obtain⟨a,us,rfl,hw,hd⟩:=h1'
   unfold DVs at hd
   obtain⟨u,us',rfl,hu,hus⟩:=hd
   unfold DV at hu
   subst hu
   refine⟨(a,t.1,us')::es,rfl,by simp[e2],fun e he=>?_,by simp[e4],fun i e t' h3 h4=>?_⟩
   · rcases yX.mp he with rfl | he
     · exact hw.sq
     · exact e3 e he
   · cases i with
     | zero=>simp at h3 h4;subst h3 h4;exact⟨h1,rfl⟩
     | succ i=>exact e5 i e t' (by simpa using h3) (by simpa using h4)
theorem YV {W:Addr->Prop}:∀{es:List (Addr×Str×List V)}{ts:List (Str×List PyData)},es.length=ts.length->(∀(i:Nat) e t,es[i]?=some e->ts[i]?=some t->DV K H W (O1 t) (.ref e.1))->DVs K H W (ts.map O1) (es.map fun e=>V.ref e.1)
 | [],[],_,_=>by simp only[a7W];exact DVs.nil
 | [],_::_,h,_=>by simp at h
 | _::_,[],h,_=>by simp at h
 | e::es,t::ts,h,k=>by
   rw[zI,zI]
   exact DVs.cons (k 0 e t rfl rfl) (YV (by simpa using h) fun i e t h1 h2=>k (i+1) e t (by simpa using h1) (by simpa using h2))
theorem bW {α β:Type}:∀{as as':List α},as'.Perm as->∀{bs:List β},as.length=bs.length->∃bs':List β,bs'.Perm bs/\(as'.zip bs').Perm (as.zip bs)/\as'.length=bs'.length:=by
 intro as as' h
 induction h with
 | nil=>intro bs hl;exact⟨bs,.refl _,.refl _,hl⟩
 | cons x _ ih=>
   intro bs hl
   cases bs with
   | nil=>simp at hl
   | cons b bs=>
     obtain⟨bs',h1,h2,h3⟩:=ih (bs:=bs) (by simpa using hl)
     exact⟨b::bs',h1.cons b,by rw[a6J,a6J];exact h2.cons _,by simp[h3]⟩
 | swap x y l=>
   intro bs hl
   match bs,hl with
   | b1::b2::bs,hl=>exact⟨b2::b1::bs,.swap _ _ _,by simp only[a6J];exact .swap _ _ _,by simpa using hl⟩
 | trans p1 p2 ih1 ih2=>
   intro bs hl
   obtain⟨b2,h1,h2,h3⟩:=ih2 hl
   obtain⟨b3,g1,g2,g3⟩:=ih1 h3
   exact⟨b3,g1.trans h1,g2.trans h2,g3⟩
theorem RM {a:Addr}{ts:List (Str×List PyData)}{vs:List V}{QQ:VK}(oa:OA K H M) (hl:SqL K H a vs∨SqT K H a vs) (hd:DVs K H M.W (ts.map O1) vs) (nd:(ts.map (·.1)).Nodup) (h64:ts.length < 64)
   (k:∀(w:V) (H':Hp) (z:DS) (M':Own),OA K H' M'->SI K H' M' z w->Step K M M' H H'->(∃ts':List (Str×List PyData),ts'.Perm ts/\ts'.Pairwise (fun x y=>x.1.cps.toList < y.1.cps.toList)/\z = .d (.list (ts'.map O1))/\M'=M)->QQ w H'):RJ K [.ref a] H QQ:=by
 obtain⟨es,rfl,e2,e3,e4,e5⟩:=YU hd
 refine .inr (.inl ⟨a,es,rfl,hl,e3,by rw[e2];exact nd,by rw[e4];exact h64,fun es' p hp hs hn=>?_⟩)
 obtain⟨ts',p1,p2,p3⟩:=bW hp e4
 have each:∀(i:Nat) e t,es'[i]?=some e->ts'[i]?=some t->DV K H M.W (O1 t) (.ref e.1)/\e.2.1=t.1:=fun i e t h1 h2=>by
   have hz:(e,t)∈es.zip ts:=p2.mem_iff.mp (yN (i:=i) (by rw[a4W];exact⟨h1,h2⟩))
   obtain⟨j,hj⟩:=List.getElem?_of_mem hz
   rw[a4W] at hj
   exact e5 j e t hj.1 hj.2
 have g:Grow K M.W M.W H (upd H p (.lst (es'.map fun e=>V.ref e.1))):=AU _ hn
 refine k _ _ (.d (.list (ts'.map O1))) M (oa.new hn) ?_ ⟨g⟩ ⟨ts',p1,?_,rfl,rfl⟩
 · unfold SI DV
   exact⟨p,_,rfl,.inl ⟨fun w=>w (oa.none hn),.inl AH⟩,(YV p3 fun i e t h1 h2=>(each i e t h1 h2).1).grow g⟩
 · rw[List.pairwise_iff_getElem] at hs ⊢
   intro i j hi hj hij
   have hi':i < es'.length:=by omega
   have hj':j < es'.length:=by omega
   have:=hs i j hi' hj' hij
   rw[(each i es'[i] ts'[i] (zV hi') (zV hi)).2,(each j es'[j] ts'[j] (zV hj') (zV hj)).2] at this
   exact this
theorem m7 {ts:List (Str×List PyData)}(nd:(ts.map (·.1)).Nodup) (h64:ts.length < 64) (q:∀ts':List (Str×List PyData),ts'.Perm ts->ts'.Pairwise (fun x y=>x.1.cps.toList < y.1.cps.toList)->Q (.d (.list (ts'.map O1))) M):DR K (RJ K) [.d (.list (ts.map O1))] M Q:=fun H vs QQ oa s k=>by
 obtain⟨v,r,rfl,h1,h2⟩:=s
 cases h2
 unfold SI DV at h1
 obtain⟨a,vs,rfl,hl,hd⟩:=h1
 exact RM oa (.inl hl.sq) hd nd h64 fun w H' z M' o si st ⟨ts',p1,p2,e1,e2⟩=>by subst e1 e2;exact k w H' _ _ o si st (q ts' p1 p2)
end
end DL
namespace DL
open PySem PySem.Spec L2
section
variable {X:Cx}{K:Frg}
theorem wR (h:X.K=K) (hc:X.calm=true):BQ X (.builtin "sorted") (RJ K):=h▸bV hc
end
section
variable {K:Frg}{M:Own}{ρ:List (Option DS)}{wi:TI}{g:TG}{H:Hp}
theorem m8 {ts:List (Str×PyData)}{k:Str}{d:PyData}(h:k∉ts.map (·.1)):YR ts k d=ts++[(k,d)]:=by
 unfold YR
 rw[if_neg]
 intro e
 obtain⟨t,ht,e⟩:=List.any_eq_true.mp e
 exact h (zL.mpr ⟨t,ht,by simpa using e⟩)
theorem YW {fr:List (Option Nat)}{tt:TT}{tk tv:TE}{T:List Nat}{Q:DS->Own->Prop}(ho:QM g T) (hT:∀i∈T,∀j,fr[i]?≠some (some j))
   (h:DI K wi ρ M fun ds M1=>ds.length < sizeLine/\∃(c:PyData->Bool) (f:PyData->Str) (w:PyData->PyData),((ds.filter c).map f).Nodup /\
     (∀d∈ds,∀M',DG K g d (OH fr ρ) M' fun ρ2 M2=>M2=M'/\DT K tt ρ2 M2 fun b M3=>M3=M'/\b=c d/\(c d=true->DE K tk ρ2 M3 fun y M4=>y = .d (.str (f d))/\M4=M'/\DE K tv ρ2 M4 fun z M5=>z = .d (w d)/\M5=M')) /\
     ∀p,M1 p=none->Q (.loc p) (M1.put p (.d (AW ((ds.filter c).map fun d=>(f d,w d)))))) :
   DE K (bS fr wi g tt tk tv) ρ M Q:=fun σ H QQ R k=>
 h σ H _ R fun J ds H1 M1 o1 t1 wd ⟨hsz,c,f,w,nd,he,hq⟩=>by
   intro A hA
   obtain⟨oA,sA⟩:=Y2 (kvs:=[]) (ks:=[]) o1 hA (by unfold DKV;rfl)
   have hM:=o1.none hA
   let acc:Nat->List (Str×PyData):=fun i=>((ds.take i).filter c).map fun d=>(f d,w d)
   refine⟨fun i m ys H2=>m=ds.length - i/\i<=ds.length/\H2 A=some (.dK ys)/\OA K H2 (M1.put A (.d (AW (acc i))))/\Step K M1 (M1.put A (.d (AW (acc i)))) H1 H2,⟨_,rfl,xT _,AH,oA,sA⟩,?_⟩
   rintro i m ys H2 ⟨rfl,hi,hys,oa,st⟩
   refine⟨hys,?_⟩
   by_cases hlt:i < ds.length
   · refine .inr ⟨wd.go i H2 _ hlt oa st,fun x H3 y=>?_⟩
     obtain⟨oa3,st3,d,e1,e2⟩:=wd.yld i H2 _ x H3 oa st hlt y
     have Rc:Rel K (M1.put A (.d (AW (acc i)))) (OH fr ρ) (L2.capt fr σ) H3:=((R.step o1 t1).step oa3 (st.trans st3)).capt
     have ts:(ds.take (i+1)).filter c=(ds.take i).filter c++(if c d then [d] else []):=take_succ_filter c ds i d e1
     refine ho _ _ _ _ (he d (yN e1) _ (L2.capt fr σ) H3 x _ Rc e2 fun ρ3 M3 σ3 H4 R3 st4 ⟨eM,b3⟩ hext=>⟨fun i' v' hv'=>?_,?_⟩)
     · obtain⟨j,f1,f2⟩:=NV hv'
       rw[hext i' fun hm=>hT i' hm j f1]
       exact hv'
     · subst eM
       refine b3 σ3 H4 _ R3 fun b H5 M5 o5 st5 ⟨eM5,eb,h5⟩=>?_
       subst eM5
       have sx:=((st.trans st3).trans st4).trans st5
       cases hb:c d with
       | false=>
         rw[hb] at eb
         subst eb
         rw[if_neg nft]
         obtain⟨ks,q1,q2⟩:=o5 A _ zU
         have ea:acc (i+1)=acc i:=by show(((ds.take (i+1)).filter c).map _)=_;rw[ts,hb];simp[acc]
         refine⟨ks,ds.length - (i+1),by omega,rfl,hlt,q1,?_,?_⟩
         · rw[ea];exact o5
         · rw[ea];exact sx
       | true=>
         rw[hb] at eb
         subst eb
         rw[if_pos rfl]
         refine h5 hb σ3 H5 _ (R3.step o5 st5) fun y H6 z M6 o6 s6 st6 ⟨ez,eM6,h6⟩=>?_
         subst ez eM6
         refine h6 σ3 H6 _ ((R3.step o5 st5).step o6 st6) fun y2 H7 z2 M7 o7 s7 st7 ⟨ez2,eM7⟩=>?_
         subst ez2 eM7
         obtain⟨ks,q1,q2⟩:=o7 A _ zU
         obtain⟨w1,w2⟩:=FQ o7 zU (eL (k:=f d) q2 s7)
         have hnew:f d∉(acc i).map (·.1):=by
           intro hm
           have:((ds.take (i+1)).filter c).map f=(acc i).map (·.1)++[f d]:=by rw[ts,hb];simp[acc]
           have nd2:(((ds.take (i+1)).filter c).map f).Nodup:=by
             refine nd.sublist ?_
             exact((List.take_sublist _ _).filter _).map _
           rw[this,List.nodup_append] at nd2
           exact nd2.2.2 _ hm _ (by simp) rfl
         have ea:acc (i+1)=YR (acc i) (f d) (w d):=by
           rw[m8 hnew]
           show(((ds.take (i+1)).filter c).map _)=_
           rw[ts,hb]
           simp[acc]
         have hlen:ks.length < sizeLine:=by
           rw[W6 q2]
           unfold AW
           rw[zX]
           refine zQ ?_ hsz
           show(((ds.take i).filter c).map _).length<=_
           rw[zX]
           exact zN (yJ _ _) (by rw[a2Z];omega)
         rw[yI] at w1 w2
         refine⟨ks,a1K (f d),AO s6,q1,hlen,ds.length - (i+1),by omega,rfl,hlt,AH,?_,?_⟩
         · rw[ea];exact w1
         · rw[ea];exact((sx.trans st6).trans st7).trans w2
   · have e:i=ds.length:=by omega
     subst e
     refine .inl ⟨wd.stop H2 _ oa st,k _ H2 (.loc A) _ oa rfl (t1.trans st) ?_⟩
     have:=hq A hM
     have ea:acc ds.length=(ds.filter c).map fun d=>(f d,w d):=by show(((ds.take ds.length).filter c).map _)=_;rw[a2K]
     rw[ea]
     exact this
theorem m9 {D:EndsD}{i j:Nat}{ta:TA}(h:DA K ta ρ M fun xs M1=>∃x y,xs=[x,y]/\D.nx ((ρ.set i (some x)).set j (some y)) M1):DSt K (y9 i j ta) ρ M D:=fun σ H E R k1 _ _ _=>
 h σ H _ R fun vs H1 xs M1 o1 s1 t1 h1=>by
   obtain⟨x,y,rfl,q⟩:=h1
   obtain⟨v,r,rfl,sx,s2⟩:=s1
   obtain⟨w,r',rfl,sy,s3⟩:=s2
   cases s3
   exact⟨v,w,rfl,k1 _ M1 _ H1 (((R.step o1 t1).set sx i).set sy j) t1 q⟩
end
end DL
namespace L2
open PySem PySem.Spec PyProof.Rows
theorem OM (ns:List Int):∀k,k<=ns.length->preSum (fun i=>ns.getD i 0) k=(ns.take k).sum
 | 0,_=>by simp[preSum]
 | k+1,h=>by
   show preSum _ k+ns.getD k 0=_
   have e:ns.take (k+1)=ns.take k++[ns.getD k 0]:=by
     rw[a4X,yU,zV (by omega)];rfl
   rw[OM ns k (by omega),e,List.sum_append]
   simp
def wS (K:Frg):List V->Hp->VK->Prop:=fun xs H Q=>∃(p:Addr) (ns:List Int),xs=[.ref p]/\SqL K H p (ns.map V.int)/\Q (.int ns.sum) H
theorem RN:∀{ns:List Int}{its:List Value},Vals (ns.map V.int) its->its.length=ns.length/\∀(i:Nat) v,its[i]?=some v->∃t,v=Value.int (ns.getD i 0) t
 | [],_,.nil=>⟨rfl,fun i v h=>by simp at h⟩
 | n::ns,_,.cons r t=>by
   obtain⟨h1,h2⟩:=RN t
   refine⟨by simp[h1],fun i v h=>?_⟩
   cases i with
   | zero=>simp at h;subst h;exact r
   | succ i=>exact h2 i v (by simpa using h)
theorem mB {X:Cx}(hc:X.calm=true):BQ X (.builtin "sum") (wS X.K):=by
 intro pins s σ H xs us Q I r h
 obtain⟨p,ns,rfl,hp,q⟩:=h
 obtain⟨u,rfl,ru⟩:=D0 r
 cases ru
 obtain⟨its,rv,pl,_⟩:=I.list hp
 obtain⟨hl,hv⟩:=RN rv
 have hlist:=pl.isList
 have hlt:p < s.heap.objs.size:=by obtain⟨_,e,_⟩:=hlist;exact zM e
 refine call_sum_walkAnyS ?_
 refine wpAny_pyIter_list hlist ⟨s.heap.objs.size,_,_,_,its.toArray.size,fun i v=>its.toArray[i]?=some v,_,fun i=>ns.getD i 0,rfl,(Walks.list (A:=X.A.in1) (I.ok.hd hc) _ _ (zC hlt) its.toArray).toS,⟨⟨_,yZ _ rfl,rfl,rfl⟩,hlist.push _⟩,fun b hb=>?_,fun i v e=>hv i v (by simpa using e),fun s' t' hm=>?_⟩
 · show b < (s.heap.push _).objs.size
   rw[b1Q]
   rcases yX.mp hb with e | hb
   · rw[e];exact Nat.lt_succ_self _
   · rw[List.mem_singleton.mp hb];exact c2J hlt
 · have hk:∀b o,s.heap.get? b=some o->s'.heap.get? b=some o:=fun b o e=>
     hm.heap b o (fun hI=>absurd (zM e) (by rw[List.mem_singleton.mp hI];exact yF _)) (zW _ e)
   rw[Moved.eq_with hm]
   have es:preSum (fun i=>ns.getD i 0) its.toArray.size=ns.sum:=by
     rw[zJ,hl,OM ns _ (zR _),a2K]
   rw[es]
   exact⟨.int ns.sum,H,I.kept (h':=s'.heap) (t':=s'.toks) hk,⟨t',rfl⟩,q⟩
end L2
namespace DL
open PySem PySem.Spec L2
theorem A07 {X:Cx}{K:Frg}(h:X.K=K) (hc:X.calm=true):BQ X (.builtin "sum") (wS K):=h▸mB hc
section
variable {K:Frg}{M:Own}{Q:DS->Own->Prop}{H:Hp}
theorem YX {W:Addr->Prop}:∀{ns:List Int}{vs:List V},DVs K H W (ns.map b7X) vs->vs=ns.map V.int
 | [],vs,h=>by unfold DVs at h;subst h;rfl
 | n::ns,vs,h=>by
   rw[zI] at h
   unfold DVs at h
   obtain⟨v,r,rfl,h1,h2⟩:=h
   unfold DV at h1
   rw[h1,YX h2];rfl
theorem wU {ns:List Int}(q:Q (.d (.int ns.sum)) M):DR K (wS K) [.d (.list (ns.map .int))] M Q:=fun H vs QQ oa s k=>by
 obtain⟨v,r,rfl,h1,h2⟩:=s
 cases h2
 unfold SI DV at h1
 obtain⟨a,vs,rfl,hl,hd⟩:=h1
 have e:=YX hd
 subst e
 exact⟨a,ns,rfl,hl.sq,k _ H (.d (.int ns.sum)) M oa BJ Step.refl q⟩
end
end DL
namespace DL
open PySem PySem.Spec L2
open PyProof.Rows (envOfC AllBare)
def OO (k:Nat):Stmt->Stmt
 | .ClassDef _ _ _ b _ _ _ _ _ _ _=>b.getD k (.Pass ⟨0,0,0,0⟩)
 | _=>.Pass ⟨0,0,0,0⟩
end DL
namespace DL
open PySem PySem.Spec L2
theorem YY (m:Nat):wN (B7 m)=true:=by
 obtain⟨d1,d2,_⟩:=GY m
 unfold wN
 rw[show(B7 m).isEmpty=false by simpa using d2,a0V]
 exact⟨rfl,List.all_eq_true.mpr fun c hc=>lT.mpr (d1 c hc)⟩
theorem i0:B7 0=[48]:=dY (by decide)
theorem rw_dec {n:Int}(hb:big n):rwL (AI n).cps.toList=some n:=by
 obtain⟨m,hm,hc⟩:=KL n hb
 obtain⟨d1,d2,d3,d4,d5⟩:=GY m
 rcases hc with ⟨h0,hn,e⟩ | ⟨h0,hn,hm0,e⟩
 · rw[e]
   have hh:¬(B7 m).head?=some 45:=fun h=>by
     have:=d1 45 (b6W h)
     omega
   have hf:OK (B7 m)=B7 m:=by unfold OK;rw[if_neg hh]
   unfold rwL
   rw[hf,YY,if_neg hh,d3,if_pos,hn]
   by_cases h48:(B7 m).head?=some 48
   · have:m=0:=by
       cases hd:B7 m with
       | nil=>exact absurd hd d2
       | cons y ys=>
         rw[hd] at h48
         have:y=48:=by simpa using h48
         subst this
         exact d4 ys hd
     subst this
     rw[i0];rfl
   · rw[decide_eq_false h48];rfl
 · rw[e]
   have hh:(45::B7 m).head?=some 45:=rfl
   have hf:OK (45::B7 m)=B7 m:=by unfold OK;rw[if_pos hh];rfl
   have h48:¬(B7 m).head?=some 48:=fun h=>by
     cases hd:B7 m with
     | nil=>exact absurd hd d2
     | cons y ys=>
       rw[hd] at h
       have:y=48:=by simpa using h
       subst this
       have:=d4 ys hd
       omega
   unfold rwL
   rw[hf,YY,if_pos hh,d3,decide_eq_false h48,hn];rfl
example:(DY (rwD (.str (a0J (a0Q "01:1") (a0Q ":")).1))&&FR (rwD (.str (a0J (a0Q "01:1") (a0Q ":")).2.2)))=false:=by decide +kernel
example:(DY (rwD (.str (a0J (a0Q "1:1.0") (a0Q ":")).1))&&FR (rwD (.str (a0J (a0Q "1:1.0") (a0Q ":")).2.2)))=false:=by decide +kernel
end DL
namespace DL
open PySem PySem.Spec L2
inductive Deed where
 | put (x:Str) (p k:Int) | take (x:Str) | move (x:Str) (p:Int) | count (x:Str) (k:Int) | name (x y:Str) | split (x y:Str) (p k:Int) | join (x y:Str)
def Deed.d:Deed->PyData
 | .put x p k=>.tuple [.str (a0Q "put"),.str x,.int p,.int k]
 | .take x=>.tuple [.str (a0Q "take"),.str x]
 | .move x p=>.tuple [.str (a0Q "move"),.str x,.int p]
 | .count x k=>.tuple [.str (a0Q "count"),.str x,.int k]
 | .name x y=>.tuple [.str (a0Q "name"),.str x,.str y]
 | .split x y p k=>.tuple [.str (a0Q "split"),.str x,.str y,.int p,.int k]
 | .join x y=>.tuple [.str (a0Q "join"),.str x,.str y]
def Deed.names:Deed->List Str
 | .put x _ _=>[x] | .take x=>[x] | .move x _=>[x] | .count x _=>[x] | .name x y=>[x,y] | .split x y _ _=>[x,y] | .join x y=>[x,y]
def Deed.ok (D:Deed):Prop:=∀x∈D.names,AG x
def F0:List (Str×Str):=[("put", "npk"),("take", "n"),("move", "np"),("count", "nk"),("name", "nn"),("split", "nnpk"),("join", "nn")]
def OP:PyData->PyData | .str z=>aZ (F0.lookup z) | _=>.none
def YZ (z:Str):Bool:=z == "name" || z == "split" || z == "join"
def RO:PyData->PyData | .tuple (.str w::r)=>.tuple (r.take (if YZ w then 2 else 1)) | d=>d
theorem mD {w f:Str}(h:F0.lookup w=some f):(w = "put" /\ f = "npk")∨(w = "take" /\ f = "n")∨(w = "move" /\ f = "np")∨(w = "count" /\ f = "nk")∨(w = "name" /\ f = "nn")∨(w = "split" /\ f = "nnpk")∨(w = "join" /\ f = "nn"):=by
 unfold F0 at h
 simp only[a3X,List.lookup_nil] at h
 split at h
 · rename_i e;exact .inl ⟨eq_of_beq e,by injection h with h;exact h.symm⟩
 split at h
 · rename_i e;exact .inr (.inl ⟨eq_of_beq e,by injection h with h;exact h.symm⟩)
 split at h
 · rename_i e;exact .inr (.inr (.inl ⟨eq_of_beq e,by injection h with h;exact h.symm⟩))
 split at h
 · rename_i e;exact .inr (.inr (.inr (.inl ⟨eq_of_beq e,by injection h with h;exact h.symm⟩)))
 split at h
 · rename_i e;exact .inr (.inr (.inr (.inr (.inl ⟨eq_of_beq e,by injection h with h;exact h.symm⟩))))
 split at h
 · rename_i e;exact .inr (.inr (.inr (.inr (.inr (.inl ⟨eq_of_beq e,by injection h with h;exact h.symm⟩)))))
 split at h
 · rename_i e;exact .inr (.inr (.inr (.inr (.inr (.inr ⟨eq_of_beq e,by injection h with h;exact h.symm⟩)))))
 cases h
theorem LT {w f:Str}(h:F0.lookup w=some f):f.cps.all (· < 128)=true/\f.cps.size<=4/\b1J f (a0Q "nn")=YZ w/\(YZ w=true->2<=f.cps.size/\f.cps[0]?=some 110/\f.cps[1]?=some 110)/\1<=f.cps.size:=by
 rcases mD h with ⟨rfl,rfl⟩ | ⟨rfl,rfl⟩ | ⟨rfl,rfl⟩ | ⟨rfl,rfl⟩ | ⟨rfl,rfl⟩ | ⟨rfl,rfl⟩ | ⟨rfl,rfl⟩ <;> decide +kernel
def mE (d:PyData):Prop:=∃w f r,d = .tuple (.str w::r)/\F0.lookup w=some f
theorem mF (D:Deed):mE D.d:=by cases D <;> exact⟨_,_,_,rfl,rfl⟩
theorem mG (D:Deed):RO D.d = .tuple (D.names.map .str):=by cases D <;> rfl
def bX (d:PyData):Prop:=∃D:Deed,d=D.d/\D.ok
def HA:FSp:=fn1 (fun _=>True) OP
def IA:FSp:=fn1 mE RO
def EE (o:MO):Prop:=∃v:Int,o = .l [.int v]
def D6:FSp:=⟨fun xs M=>∃c:Int,xs=[.d (.int c)]/\xJ c<=2 ^ 21,fun xs M y M'=>M'=M/\∃v:Int,y = .d (.int v)⟩
def BN:FSp:=⟨fun xs M=>∃p size o,xs=[.loc p,.d (.int size)]/\M p=some o/\EE o/\0 < size/\size < 1073741824,
 fun xs M y M'=>∀p size,xs=[.loc p,.d (.int size)]->∃v o,y = .d (.int v)/\0<=v/\v < size/\EE o/\M'=M.put p o⟩
theorem BB {p:Addr}{size:Int}{o:MO}{M:Own}{Q:DS->Own->Prop}(m:M p=some o) (ho:EE o) (h0:0 < size) (h1:size < 1073741824) (q:∀v o',0<=v->v < size->EE o'->Q (.d (.int v)) (M.put p o')) :
   [DS.loc p,.d (.int size)].length=2/\BN.pre [.loc p,.d (.int size)] M/\∀x M',BN.post [.loc p,.d (.int size)] M x M'->Q x M':=
 ⟨rfl,⟨p,size,o,rfl,m,ho,h0,h1⟩,fun x M' h=>by obtain⟨v,o',rfl,h2,h3,h4,rfl⟩:=h p size rfl;exact q v o' h2 h3 h4⟩
def PL:List Str:=["take", "name", "join"]
theorem O2 {z:Str}(h:z∈PL):z.cps.toList=[116,97,107,101]∨z.cps.toList=[110,97,109,101]∨z.cps.toList=[106,111,105,110]:=by
 simp only[PL,yX,xX,or_false] at h
 rcases h with rfl | rfl | rfl
 · exact .inl (by decide +kernel)
 · exact .inr (.inl (by decide +kernel))
 · exact .inr (.inr (by decide +kernel))
def nxL (a:Nat):Nat:=if a=122 then 97 else a+1
def Run (l:List Nat):Prop:=∀i a b,l[i]?=some a->l[i+1]?=some b->b=nxL a
theorem Run.drop {l:List Nat}(h:Run l) (n:Nat):Run (l.drop n):=fun i a b h1 h2=>by
 rw[List.getElem?_drop] at h1 h2
 exact h (n+i) a b h1 (by rw[← Nat.add_assoc] at h2;exact h2)
theorem Run.take {l:List Nat}(h:Run l) (n:Nat):Run (l.take n):=fun i a b h1 h2=>by
 rw[List.getElem?_take] at h1 h2
 split at h1
 · split at h2
   · exact h i a b h1 h2
   · cases h2
 · cases h1
theorem qK {z:Str}{n c:Nat}(h:z.cps.toList=a4K n c):z∉PL:=fun hb=>by
 have key:∀a∈z.cps.toList,a=c:=fun a ha=>by rw[h] at ha;exact c1J ha
 rcases O2 hb with e | e | e
 · rw[e] at key
   have h1:=key 116 (by simp);have h2:=key 97 (by simp);omega
 · rw[e] at key
   have h1:=key 110 (by simp);have h2:=key 97 (by simp);omega
 · rw[e] at key
   have h1:=key 106 (by simp);have h2:=key 111 (by simp);omega
theorem qL {z:Str}{c:Nat}{m:List Nat}(h:z.cps.toList=c::m) (hr:Run m):z∉PL:=fun hb=>by
 rcases O2 hb with e | e | e
 · rw[e] at h;injection h with _ h;subst h
   exact absurd (hr 0 97 107 rfl rfl) (by decide)
 · rw[e] at h;injection h with _ h;subst h
   exact absurd (hr 0 97 109 rfl rfl) (by decide)
 · rw[e] at h;injection h with _ h;subst h
   exact absurd (hr 0 111 105 rfl rfl) (by decide)
theorem qM {z:Str}{c:Nat}{m:List Nat}(h:z.cps.toList=m++[c]) (hr:Run m):z∉PL:=fun hb=>by
 have hm:m=z.cps.toList.dropLast:=by rw[h];simp
 rcases O2 hb with e | e | e
 · rw[e] at hm;subst hm
   exact absurd (hr 0 116 97 rfl rfl) (by decide)
 · rw[e] at hm;subst hm
   exact absurd (hr 0 110 97 rfl rfl) (by decide)
 · rw[e] at hm;subst hm
   exact absurd (hr 0 106 111 rfl rfl) (by decide)
def A0l (l:List Nat):Bool:=(a3Z l.length).all fun i=>match l[i]?,l[i+1]? with | some a,some b=>b==nxL a | _,_=>true
theorem wV {l:List Nat}(h:A0l l=true):Run l:=fun i a b h1 h2=>by
 have hi:i < l.length:=(yT.mp h1).1
 have:=List.all_eq_true.mp h i (List.mem_range.mpr hi)
 rw[h1,h2] at this
 exact eq_of_beq this
theorem mH:∀t,t < 26->A0l ((a0Q "abcdefghijklmnopqrstuvwxyz").cps.toList.drop t++(a0Q "abcdefghijklmnopqrstuvwxyz").cps.toList.take t)=true:=by decide +kernel
def D7:FSp:=⟨fun xs M=>∃p n o,xs=[.loc p,.d (.int n)]/\M p=some o/\EE o/\0<=n/\n<=26,
 fun xs M y M'=>∀p n,xs=[.loc p,.d (.int n)]->∃(ys:List Str) (o:MO),y = .d (.list (ys.map .str))/\(ys.length:Int)=n/\(∀z∈ys,AG z)/\(∀z∈ys,z∉PL)/\ys.Nodup/\EE o/\M'=M.put p o⟩
theorem bY {p:Addr}{n:Int}{o:MO}{M:Own}{Q:DS->Own->Prop}(m:M p=some o) (ho:EE o) (h0:0<=n) (h1:n<=26) (q:∀(ys:List Str) o',(ys.length:Int)=n->(∀z∈ys,AG z)->(∀z∈ys,z∉PL)->ys.Nodup->EE o'->Q (.d (.list (ys.map .str))) (M.put p o')) :
   [DS.loc p,.d (.int n)].length=2/\D7.pre [.loc p,.d (.int n)] M/\∀x M',D7.post [.loc p,.d (.int n)] M x M'->Q x M':=
 ⟨rfl,⟨p,n,o,rfl,m,ho,h0,h1⟩,fun x M' h=>by obtain⟨v,o',rfl,h2,h3,h4,h5,h6,rfl⟩:=h p n rfl;exact q v o' h2 h3 h4 h5 h6⟩
theorem RP {c:Int}{M:Own}{Q:DS->Own->Prop}(h:xJ c<=2 ^ 21) (q:∀v:Int,Q (.d (.int v)) M):[DS.d (.int c)].length=1/\D6.pre [.d (.int c)] M/\∀x M',D6.post [.d (.int c)] M x M'->Q x M':=
 ⟨rfl,⟨c,rfl,h⟩,fun x M' h=>by obtain⟨rfl,v,rfl⟩:=h;exact q v⟩
theorem AL {z:Str}(h:AG z):zH (.str z)=true:=BX (DZ h) (by simp[a4V])
def Deed.word:Deed->Str
 | .put .. => "put" | .take .. => "take" | .move .. => "move" | .count .. => "count" | .name .. => "name" | .split .. => "split" | .join .. => "join"
def Deed.fst:Deed->Str
 | .put x _ _=>x | .take x=>x | .move x _=>x | .count x _=>x | .name x _=>x | .split x _ _ _=>x | .join x _=>x
def Deed.rest:Deed->List PyData
 | .put _ p k=>[.int p,.int k] | .take _=>[] | .move _ p=>[.int p] | .count _ k=>[.int k] | .name _ y=>[.str y] | .split _ y p k=>[.str y,.int p,.int k] | .join _ y=>[.str y]
def Deed.form:Deed->Str
 | .put .. => "npk" | .take .. => "n" | .move .. => "np" | .count .. => "nk" | .name .. => "nn" | .split .. => "nnpk" | .join .. => "nn"
theorem Deed.d_eq (D:Deed):D.d = .tuple (.str D.word::.str D.fst::D.rest):=by cases D <;> rfl
theorem Deed.word_ok (D:Deed):zH (.str D.word)=true:=by cases D <;> (simp only[Deed.word];decide +kernel)
theorem Deed.fst_ok {D:Deed}(h:D.ok):AG D.fst:=by cases D <;> exact h _ a1J
theorem D8 (a b:Str):a0W (.str a) (.str b)=(a==b):=by simp[a0W]
theorem Z0 {ss:List Str}(h:∀s∈ss,b4Q s=true):zH (.list (ss.map .str))=true:=by
 refine BX (HS fun d hd=>?_) ?_
 · obtain⟨y,h1,rfl⟩:=zL.mp hd
   exact h y h1
 · have:a1V (ss.map a0X)<=0:=QT fun d hd=>by
     obtain⟨y,h1,rfl⟩:=zL.mp hd
     exact zR 0
   simp only[a4V];omega
theorem Q5 {ys:List Str}{v:Int}(h0:0<=v) (h1:v < ys.length):∃y,atI (ys.map a0X) v=some (.str y)/\y∈ys:=by
 obtain⟨n,rfl⟩:∃n:Nat,v=(n:Int):=⟨v.toNat,by omega⟩
 have hn:n < ys.length:=by omega
 exact⟨ys[n],AC (by rw[zF,zV hn];rfl),b7Q hn⟩
def nmA (R:Str):PyData->PyData
 | .int i=>match atI R.cps.toList (i/8) with | some c=>.str (PK ⟨#[c]⟩ (1+i % 8)) | none=>.none
 | d=>d
def nmB (R t:Str):PyData->PyData
 | .int i=>match atI R.cps.toList i with | some c=>.str (⟨#[c]⟩++t) | none=>.none
 | d=>d
def nmC (R t:Str):PyData->PyData
 | .int i=>match atI R.cps.toList i with | some c=>.str (t++⟨#[c]⟩) | none=>.none
 | d=>d
theorem W7 {R:Str}{i:Int}{c:Nat}(h:atI R.cps.toList (i/8)=some c):nmA R (.int i) = .str (PK ⟨#[c]⟩ (1+i % 8)):=by simp only[nmA,h]
theorem W8 {R t:Str}{i:Int}{c:Nat}(h:atI R.cps.toList i=some c):nmB R t (.int i) = .str (⟨#[c]⟩++t):=by simp only[nmB,h]
theorem W9 {R t:Str}{i:Int}{c:Nat}(h:atI R.cps.toList i=some c):nmC R t (.int i) = .str (t++⟨#[c]⟩):=by simp only[nmC,h]
def Z1:FSp:=⟨fun xs M=>∃ns:List Int,xs=[.d (.list (ns.map .int))]/\ns.length<=63/\∀i∈ns,xJ i<=2 ^ 20,fun xs M y M'=>y = .d (.bool true)⟩
theorem RQ {R:List Nat}(h:R.Nodup) {i j:Nat}{c:Nat}(h1:atI R (i:Int)=some c) (h2:atI R (j:Int)=some c) (hi:i < R.length) (hj:j < R.length):i=j:=by
 have e1:atI R (i:Int)=some R[i]:=AC (zV hi)
 have e2:atI R (j:Int)=some R[j]:=AC (zV hj)
 rw[e1] at h1
 rw[e2] at h2
 have:R[i]=R[j]:=by rw[Option.some.inj h1,Option.some.inj h2]
 exact(List.getElem_inj h).mp this
theorem nodup_range {N:Nat}{f:Nat->Str}(h:∀i j,i < N->j < N->f i=f j->i=j):((a3Z N).map f).Nodup:=by
 unfold List.Nodup
 rw[b2W]
 exact(List.nodup_range (n:=N)).imp_of_mem fun {a b} ha hb hab e=>hab (h a b (List.mem_range.mp ha) (List.mem_range.mp hb) e)
theorem i6 (t:Nat):((a0Q "abcdefghijklmnopqrstuvwxyz").cps.toList.drop t++(a0Q "abcdefghijklmnopqrstuvwxyz").cps.toList.take t).Nodup:=by
 have h:((a0Q "abcdefghijklmnopqrstuvwxyz").cps.toList.drop t++(a0Q "abcdefghijklmnopqrstuvwxyz").cps.toList.take t).Perm (a0Q "abcdefghijklmnopqrstuvwxyz").cps.toList:=by
   refine List.perm_append_comm.trans ?_
   rw[List.take_append_drop]
 exact h.nodup_iff.mpr aY
theorem mI {c d:Nat}{t:Str}(h:(⟨#[c]⟩:Str)++t=⟨#[d]⟩++t):c=d:=by
 have:=congrArg (fun s:Str=>s.cps.toList) h
 simp only[AT] at this
 have:=List.append_cancel_right this
 simpa using this
theorem mJ {c d:Nat}{t:Str}(h:t++(⟨#[c]⟩:Str)=t++⟨#[d]⟩):c=d:=by
 have:=congrArg (fun s:Str=>s.cps.toList) h
 simp only[AT] at this
 have:=List.append_cancel_left this
 simpa using this
theorem qN {c d:Nat}{m n:Int}(hm:1<=m) (hn:1<=n) (h:PK ⟨#[c]⟩ m=PK ⟨#[d]⟩ n):c=d/\m=n:=by
 have:=congrArg (fun s:Str=>s.cps.toList) h
 simp only[VZ hm,VZ hn] at this
 have hl:=congrArg c3Q this
 rw[b2J,b2J] at hl
 have hmn:m=n:=by omega
 refine⟨?_,hmn⟩
 subst hmn
 have hc:c∈a4K m.toNat d:=by rw[← this];exact List.mem_replicate.mpr ⟨by omega,rfl⟩
 exact c1J hc
end DL
namespace DL
open PySem PySem.Spec L2
def MV:PyData->PyData->Bool
 | .str s,p=>if s == "n" then BK p else if s == "p" then DY p else FR p
 | _,p=>FR p
def bZ:FSp:=fn2 (fun a b=>∃c:Nat,a = .str ⟨#[c]⟩/\c < 128/\okD b) fun a b=>.bool (MV a b)
def IB (f:Str) (r:List PyData):Bool:=((AK f).zip r).all fun p=>MV p.1 p.2
def AX:List PyData->Bool
 | .str w::r=>match F0.lookup w with
   | some f=>(r.length==f.cps.size)&&IB f r&&(!YZ w||!a0W (r.getD 0 .none) (r.getD 1 .none))
   | none=>false
 | _=>false
def eQ:PyData->Bool | .tuple ds=>AX ds | _=>false
def okP:PyData->Prop | .tuple ds=>ds.length<=5000/\∀d∈ds,okD d | _=>True
def FM:FSp:=fn1 okP fun d=>.bool (eQ d)
def A0m:PyData->PyData | .tuple [a,b]=>.bool (MV a b) | d=>d
theorem mK (f:Str) (r:List PyData):((F6 (AK f) r).filter fun _=>true).map A0m=(((AK f).zip r).map fun p=>MV p.1 p.2).map .bool:=by
 rw[flt]
 unfold F6
 rw[zD,zD];rfl
theorem mL {f:Str}{a b:PyData}{r:List PyData}(h0:f.cps[0]?=some 110) (h1:f.cps[1]?=some 110) (h:IB f (a::b::r)=true):BK a=true/\BK b=true:=by
 unfold IB at h
 rw[a6W] at h
 have e0:((AK f).zip (a::b::r))[0]?=some (.str ⟨#[110]⟩,a):=by
   rw[a4W]
   exact⟨by unfold AK;rw[zF];simp[h0],rfl⟩
 have e1:((AK f).zip (a::b::r))[1]?=some (.str ⟨#[110]⟩,b):=by
   rw[a4W]
   exact⟨by unfold AK;rw[zF];simp[h1],rfl⟩
 have q:∀d,MV (.str ⟨#[110]⟩) d=BK d:=fun d=>rfl
 exact⟨by rw[← q];exact h _ (yN e0),by rw[← q];exact h _ (yN e1)⟩
def IT:PyData->PyData
 | .tuple (.str w::r)=>if w == "put" then r.getD 0 .none else if w == "name" || w == "split" then r.getD 1 .none else .none
 | _=>.none
def HB:FSp:=fn1 bX IT
def Deed.isPut:Deed->Bool | .put ..=>true | _=>false
def Deed.isNS:Deed->Bool | .name ..=>true | .split ..=>true | _=>false
theorem mM (D:Deed):(D.word==a0Q "put")=D.isPut:=by cases D <;> (simp only[Deed.word,Deed.isPut];decide +kernel)
theorem A08 (w a b:Str):decide (w∈[a,b])=(w==a||w==b):=by rw[b0Q];simp
theorem qO (D:Deed):(D.word==a0Q "name" || D.word==a0Q "split")=D.isNS:=by cases D <;> (simp only[Deed.word,Deed.isNS];decide +kernel)
theorem qP {D:Deed}(h:D.ok):zH (IT D.d)=true:=by
 cases D with
 | put x p k=>exact AL (h x (by simp[Deed.names]))
 | name x y=>exact AL (h y (by simp[Deed.names]))
 | split x y p k=>exact AL (h y (by simp[Deed.names]))
 | _=>rfl
end DL
namespace DL
open PySem PySem.Spec L2
def pcD (p c:Int):PyData:=.tuple [.int p,.int c]
def tsD (ts:List Th):List (Str×PyData):=ts.map fun t=>(t.1,pcD t.2.1 t.2.2)
def KU (ts:List Th) (k:Str) (p c:Int):List Th:=if (ts.any fun t=>decide (t.1=k))=true then ts.map (fun t=>if t.1=k then (t.1,p,c) else t) else ts++[(k,p,c)]
def JH (ts:List Th) (k:Str):List Th:=ts.filter fun t=>decide (t.1≠k)
def AD:List Th->Str->Option (Int×Int)
 | [],_=>none
 | t::r,k=>if t.1=k then some t.2 else AD r k
theorem MW (ts:List Th) (k:Str) (p c:Int):YR (tsD ts) k (pcD p c)=tsD (KU ts k p c):=by
 unfold YR KU tsD
 have e:((ts.map fun t=>(t.1,pcD t.2.1 t.2.2)).any fun t=>decide (t.1=k))=ts.any fun t=>decide (t.1=k):=by rw[List.any_map];rfl
 rw[e]
 split
 · rw[zD,zD]
   apply yM
   intro t _
   show(if t.1=k then (t.1,pcD p c) else _)=_
   simp only[Function.comp]
   split <;> rfl
 · simp
theorem RR (ts:List Th) (k:Str):UU (tsD ts) k=tsD (JH ts k):=by
 unfold UU JH tsD
 rw[List.filter_map];rfl
theorem D9 (k:Str):∀ts:List Th,CL (tsD ts) k=(AD ts k).map fun v=>pcD v.1 v.2
 | []=>rfl
 | t::r=>by
   have ih:=D9 k r
   unfold tsD at ih ⊢
   simp only[zI,CL,AD]
   split
   · rfl
   · exact ih
theorem E2 {k:Str}:∀{ts:List Th}{v:Int×Int},AD ts k=some v->(k,v)∈ts
 | t::r,v,h=>by
   unfold AD at h
   split at h
   · rename_i e;cases h;subst e;exact a1J
   · exact yV _ (E2 h)
theorem FV {k:Str}:∀{ts:List Th},AD ts k=none↔k∉ts.map (·.1)
 | []=>by simp[AD]
 | t::r=>by
   unfold AD
   rw[zI,yX]
   split
   · rename_i e;simp[e]
   · rename_i e
     rw[FV]
     constructor
     · intro h q;rcases q with q | q;exact e q.symm;exact h q
     · intro h q;exact h (.inr q)
theorem IC {k:Str}{ts:List Th}:(AD ts k).isSome=decide (k∈ts.map (·.1)):=by
 cases h:AD ts k with
 | none=>rw[decide_eq_false (FV.mp h)];rfl
 | some v=>rw[decide_eq_true (zL.mpr ⟨_,E2 h,rfl⟩)];rfl
theorem FA {t:Th}:∀{ts:List Th},(ts.map (·.1)).Nodup->t∈ts->AD ts t.1=some t.2
 | u::r,nd,h=>by
   unfold AD
   rcases yX.mp h with rfl | h
   · rw[if_pos rfl]
   · rw[zI,xV] at nd
     rw[if_neg fun e=>nd.1 (by rw[e];exact zL.mpr ⟨t,h,rfl⟩)]
     exact FA nd.2 h
def c5 (t:Th):List Th->List Th
 | []=>[t]
 | u::r=>if sl t.1 u.1=true then t::u::r else u::c5 t r
def B9:List Th->List Th
 | []=>[]
 | t::r=>c5 t (B9 r)
theorem O3 (t:Th):∀ts:List Th,(c5 t ts).Perm (t::ts)
 | []=>.refl _
 | u::r=>by
   unfold c5
   split
   · exact .refl _
   · exact((O3 t r).cons u).trans (.swap _ _ _)
theorem BY:∀ts:List Th,(B9 ts).Perm ts
 | []=>.refl _
 | t::r=>(O3 t _).trans ((BY r).cons t)
theorem Z2 (t:Th):∀{ts:List Th},Ris (ts.map (·.1))->t.1∉ts.map (·.1)->Ris ((c5 t ts).map (·.1))
 | [],_,_=>by simp[c5,Ris]
 | u::r,h,hn=>by
   unfold c5
   unfold Ris at h
   rw[zI,b1V] at h
   rw[zI,yX] at hn
   split
   · rename_i e
     unfold Ris
     rw[zI,zI,b1V,b1V]
     refine⟨fun x hx=>?_,h⟩
     rcases yX.mp hx with rfl | hx
     · exact e
     · exact MN e (h.1 x hx)
   · rename_i e
     have e':sl t.1 u.1=false:=by simpa using e
     have hlt:sl u.1 t.1=true:=by
       cases hq:sl u.1 t.1 with
       | true=>rfl
       | false=>exact absurd (QS e' hq) fun q=>hn (.inl q)
     unfold Ris
     rw[zI,b1V]
     refine⟨fun x hx=>?_,Z2 t h.2 fun q=>hn (.inr q)⟩
     have:=((O3 t r).map (·.1)).mem_iff.mp hx
     rcases yX.mp this with rfl | hx
     · exact hlt
     · exact h.1 x hx
theorem MX:∀{ts:List Th},(ts.map (·.1)).Nodup->Ris ((B9 ts).map (·.1))
 | [],_=>List.Pairwise.nil
 | t::r,nd=>by
   rw[zI,xV] at nd
   exact Z2 t (MX nd.2) fun q=>nd.1 (((BY r).map (·.1)).mem_iff.mp q)
theorem Z3:∀{as bs:List Th},as.Perm bs->Ris (as.map (·.1))->Ris (bs.map (·.1))->as=bs
 | [],bs,p,_,_=>(List.nil_perm.mp p).symm
 | a::as,[],p,_,_=>by have:=p.length_eq;simp at this
 | a::as,b::bs,p,h1,h2=>by
   unfold Ris at h1 h2
   rw[zI,b1V] at h1 h2
   have e:a=b:=by
     rcases yX.mp (p.mem_iff.mp (a1J (a:=a) (l:=as))) with e | e
     · exact e
     · rcases yX.mp (p.mem_iff.mpr (a1J (a:=b) (l:=bs))) with e' | e'
       · exact e'.symm
       · have x1:=h1.1 b.1 (zL.mpr ⟨b,e',rfl⟩)
         have x2:=h2.1 a.1 (zL.mpr ⟨a,e,rfl⟩)
         rw[Y8 x1] at x2;cases x2
   subst e
   rw[Z3 (List.Perm.cons_inv p) h1.2 h2.2]
theorem i7 {as bs:List Th}(p:as.Perm bs) (h:Ris (as.map (·.1))):as=B9 bs:=
 Z3 (p.trans (BY bs).symm) h (MX ((p.map (·.1)).nodup_iff.mp h.nodup))
def KW (ts:List Th) (x:Str) (k:Int):List Th:=match AD ts x with | some v=>KU ts x v.1 (v.2+k) | none=>ts
def doT (ts:List Th):Deed->List Th
 | .put x p k=>KU ts x p k
 | .take x=>JH ts x
 | .move x p=>match AD ts x with | some v=>KU ts x p v.2 | none=>ts
 | .count x k=>KW ts x k
 | .name x y=>match AD ts x with | some v=>KU (JH ts x) y v.1 v.2 | none=>ts
 | .split x y p k=>KU (KW ts x (-k)) y p k
 | .join x y=>match AD ts y with | some v=>JH (KW ts x v.2) y | none=>ts
def Deed.made:Deed->Option Str | .put x _ _=>some x | .name _ y=>some y | .split _ y _ _=>some y | _=>none
def Deed.apart:Deed->Prop | .name x y=>x≠y | .split x y _ _=>x≠y | .join x y=>x≠y | _=>True
def Deed.placed:Deed->Prop | .put _ p _=>0<=p/\p<=999 | .move _ p=>0<=p/\p<=999 | .split _ _ p _=>0<=p/\p<=999 | _=>True
def Deed.real (D:Deed):Prop:=D.ok/\D.apart/\D.placed
theorem JI {D:Deed}(h:D.real):bX D.d:=⟨D,rfl,h.1⟩
def BA (ns:List Str) (D:Deed):Option Str:=D.names.find? fun n=>decide (n∈ns)==decide (D.made=some n)
theorem GB {ns:List Str}{D:Deed}(h:BA ns D=none):∀n∈D.names,(n∈ns)↔¬D.made=some n:=fun n hn=>by
 have:=List.find?_eq_none.mp h n hn
 by_cases h1:n∈ns <;> by_cases h2:D.made=some n <;> simp_all
theorem WA (D:Deed):IT D.d=match D.made with | some x=>.str x | none=>.none:=by cases D <;> rfl
def CQ (ts:List Th):Deed->Deed
 | .put x _ _=>.take x
 | .take x=>match AD ts x with | some v=>.put x v.1 v.2 | none=>.take x
 | .move x p=>match AD ts x with | some v=>.move x v.1 | none=>.move x p
 | .count x k=>.count x (-k)
 | .name x y=>.name y x
 | .split x y _ _=>.join x y
 | .join x y=>match AD ts y with | some v=>.split x y v.1 v.2 | none=>.join x y
abbrev tsO (ts:List Th):MO:=.d (AW (tsD ts))
def UV (ts:List Th):Prop:=(ts.map (·.1)).Nodup/\ts.length < 63
def FW:FSp:=⟨fun xs M=>∃w:List Th,xs=[.d (wD w)]/\UV w,fun xs M y M'=>∀w:List Th,xs=[.d (wD w)]->∃p,M p=none/\y = .loc p/\M'=M.put p (tsO w)⟩
def BE:FSp:=⟨fun xs M=>∃(p:Addr) (ts:List Th),xs=[.loc p]/\M p=some (tsO ts)/\(ts.map (·.1)).Nodup/\ts.length < 64,fun xs M y M'=>∀(p:Addr) (ts:List Th),xs=[.loc p]->M p=some (tsO ts)->(ts.map (·.1)).Nodup->y = .d (wD (B9 ts))/\M'=M⟩
def BF:FSp:=⟨fun xs M=>∃(p:Addr) (ts:List Th) (D:Deed),xs=[.loc p,.d D.d]/\M p=some (tsO ts)/\D.real/\BA (ts.map (·.1)) D=none,fun xs M y M'=>y = .d .none/\M'=M⟩
def EF:FSp:=⟨fun xs M=>∃(p:Addr) (ts:List Th) (x:Str) (k:Int) (v:Int×Int),xs=[.loc p,.d (.str x),.d (.int k)]/\M p=some (tsO ts)/\AD ts x=some v/\ts.length < 64,
 fun xs M y M'=>∀(p:Addr) (ts:List Th) (x:Str) (k:Int),xs=[.loc p,.d (.str x),.d (.int k)]->M p=some (tsO ts)->y = .d .none/\M'=M.put p (tsO (KW ts x k))⟩
def JJ:FSp:=⟨fun xs M=>∃(p:Addr) (ts:List Th) (D:Deed),xs=[.loc p,.d D.d]/\M p=some (tsO ts)/\UV ts/\D.real/\BA (ts.map (·.1)) D=none,
 fun xs M y M'=>∀(p:Addr) (ts:List Th) (D:Deed),xs=[.loc p,.d D.d]->M p=some (tsO ts)->y = .d .none/\M'=M.put p (tsO (doT ts D))⟩
def goD (w:List Th) (D:Deed):Prop:=UV w/\D.real/\BA (w.map (·.1)) D=none
def RS:FSp:=⟨fun xs M=>∃(w:List Th) (D:Deed),xs=[.d (wD w),.d D.d]/\goD w D,fun xs M y M'=>∀(w:List Th) (D:Deed),xs=[.d (wD w),.d D.d]->y = .d (wD (B9 (doT w D)))/\M'=M⟩
theorem qQ {t u:Th}(h:thD t=thD u):t=u:=by
 obtain⟨a,b,c⟩:=t
 obtain⟨a',b',c'⟩:=u
 simp only[thD,PyData.tuple.injEq,List.cons.injEq,PyData.str.injEq,PyData.int.injEq,and_true] at h
 obtain⟨rfl,rfl,rfl⟩:=h
 rfl
theorem OQ:∀{v w:List Th},v.map thD=w.map thD->v=w
 | [],[],_=>rfl
 | [],_::_,h=>by simp at h
 | _::_,[],h=>by simp at h
 | a::v,b::w,h=>by
   rw[zI,zI,List.cons.injEq] at h
   rw[qQ h.1,OQ h.2]
theorem WB {v w:List Th}(h:wD v=wD w):v=w:=OQ (by unfold wD at h;exact PyData.tuple.inj h)
theorem JK {D E:Deed}(h:D.d=E.d):D=E:=by
 cases D <;> cases E <;> simp only[Deed.d,PyData.tuple.injEq,List.cons.injEq,PyData.str.injEq,PyData.int.injEq,and_true,true_and,reduceCtorEq,and_false,false_and,List.nil_eq] at h <;>
   first
   | (obtain⟨_,h⟩:=h;first | (obtain⟨rfl,rfl,rfl,rfl⟩:=h;rfl) | (obtain⟨rfl,rfl,rfl⟩:=h;rfl) | (obtain⟨rfl,rfl⟩:=h;rfl) | (subst h;rfl))
   | (obtain⟨rfl,rfl,rfl,rfl⟩:=h;rfl) | (obtain⟨rfl,rfl,rfl⟩:=h;rfl) | (obtain⟨rfl,rfl⟩:=h;rfl) | (subst h;rfl)
   | exact absurd h.1 (by decide +kernel)
theorem wW {a b c d:Int}(h:pcD a b=pcD c d):a=c/\b=d:=by
 simp only[pcD,PyData.tuple.injEq,List.cons.injEq,PyData.int.injEq,and_true] at h;exact h
theorem WC:∀{ts us:List Th},tsO ts=tsO us->ts=us:=by
 intro ts us h
 have h:AW (tsD ts)=AW (tsD us):=by injection h
 unfold AW tsD at h
 rw[zD,zD] at h
 have go:∀(ts us:List Th),ts.map ((fun t:Str×PyData=>(a0X t.1,t.2))∘fun t:Th=>(t.1,pcD t.2.1 t.2.2))=us.map ((fun t:Str×PyData=>(a0X t.1,t.2))∘fun t:Th=>(t.1,pcD t.2.1 t.2.2))->ts=us:=by
   intro ts
   induction ts with
   | nil=>intro us h;cases us with | nil=>rfl | cons _ _=>simp at h
   | cons t ts ih=>
     intro us h
     cases us with
     | nil=>simp at h
     | cons u us=>
       rw[zI,zI,List.cons.injEq] at h
       obtain⟨h1,h2⟩:=h
       simp only[Function.comp,Prod.mk.injEq,PyData.str.injEq] at h1
       obtain⟨e1,e2⟩:=h1
       obtain⟨e3,e4⟩:=wW e2
       rw[ih us h2]
       obtain⟨a,b,c⟩:=t
       obtain⟨a',b',c'⟩:=u
       simp only at e1 e3 e4
       rw[e1,e3,e4]
 exact go ts us h
section
variable {M:Own}{Q:DS->Own->Prop}
theorem T2 {w:List Th}(h:UV w) (q:∀p,M p=none->Q (.loc p) (M.put p (tsO w))):[DS.d (wD w)].length=1/\FW.pre [.d (wD w)] M/\∀x M',FW.post [.d (wD w)] M x M'->Q x M':=
 ⟨rfl,⟨w,rfl,h⟩,fun x M' h=>by obtain⟨p,h1,rfl,rfl⟩:=h w rfl;exact q p h1⟩
theorem Z4 {p:Addr}{ts:List Th}(m:M p=some (tsO ts)) (nd:(ts.map (·.1)).Nodup) (hl:ts.length < 64) (q:Q (.d (wD (B9 ts))) M):[DS.loc p].length=1/\BE.pre [.loc p] M/\∀x M',BE.post [.loc p] M x M'->Q x M':=
 ⟨rfl,⟨p,ts,rfl,m,nd,hl⟩,fun x M' h=>by obtain⟨rfl,rfl⟩:=h p ts rfl m nd;exact q⟩
theorem Z5 {p:Addr}{ts:List Th}{D:Deed}(m:M p=some (tsO ts)) (hr:D.real) (ha:BA (ts.map (·.1)) D=none) (q:Q (.d .none) M):[DS.loc p,.d D.d].length=2/\BF.pre [.loc p,.d D.d] M/\∀x M',BF.post [.loc p,.d D.d] M x M'->Q x M':=
 ⟨rfl,⟨p,ts,D,rfl,m,hr,ha⟩,fun x M' h=>by obtain⟨rfl,rfl⟩:=h;exact q⟩
theorem RT {p:Addr}{ts:List Th}{x:Str}{k:Int}{v:Int×Int}(m:M p=some (tsO ts)) (hl:AD ts x=some v) (hz:ts.length < 64) (q:Q (.d .none) (M.put p (tsO (KW ts x k)))):[DS.loc p,.d (.str x),.d (.int k)].length=3/\EF.pre [.loc p,.d (.str x),.d (.int k)] M/\∀x' M',EF.post [.loc p,.d (.str x),.d (.int k)] M x' M'->Q x' M':=
 ⟨rfl,⟨p,ts,x,k,v,rfl,m,hl,hz⟩,fun x' M' h=>by obtain⟨rfl,rfl⟩:=h p ts x k rfl m;exact q⟩
theorem Z6 {p:Addr}{ts:List Th}{D:Deed}(m:M p=some (tsO ts)) (hc:UV ts) (hr:D.real) (ha:BA (ts.map (·.1)) D=none) (q:Q (.d .none) (M.put p (tsO (doT ts D)))):[DS.loc p,.d D.d].length=2/\JJ.pre [.loc p,.d D.d] M/\∀x M',JJ.post [.loc p,.d D.d] M x M'->Q x M':=
 ⟨rfl,⟨p,ts,D,rfl,m,hc,hr,ha⟩,fun x M' h=>by obtain⟨rfl,rfl⟩:=h p ts D rfl m;exact q⟩
theorem i8 {w:List Th}{D:Deed}(h:goD w D) (q:Q (.d (wD (B9 (doT w D)))) M):[DS.d (wD w),.d D.d].length=2/\RS.pre [.d (wD w),.d D.d] M/\∀x M',RS.post [.d (wD w),.d D.d] M x M'->Q x M':=
 ⟨rfl,⟨w,D,rfl,h⟩,fun x M' h=>by obtain⟨rfl,rfl⟩:=h w D rfl;exact q⟩
end
end DL
namespace DL
open PySem PySem.Spec L2
theorem c6 (ds:List PyData):(ds.filter fun _=>true)=ds:=List.filter_eq_self.mpr (by simp)
def A09:PyData->PyData | .tuple [_,p,c]=>.tuple [p,c] | d=>d
theorem UW:∀{as bs:List Str},as.Perm bs->Ris as->Ris bs->as=bs
 | [],bs,p,_,_=>(List.nil_perm.mp p).symm
 | a::as,[],p,_,_=>by have:=p.length_eq;simp at this
 | a::as,b::bs,p,h1,h2=>by
   unfold Ris at h1 h2
   rw[b1V] at h1 h2
   have e:a=b:=by
     rcases yX.mp (p.mem_iff.mp (a1J (a:=a) (l:=as))) with e | e
     · exact e
     · rcases yX.mp (p.mem_iff.mpr (a1J (a:=b) (l:=bs))) with e' | e'
       · exact e'.symm
       · have x1:=h1.1 b e'
         have x2:=h2.1 a e;rw[Y8 x1] at x2;cases x2
   subst e
   rw[UW (List.Perm.cons_inv p) h1.2 h2.2]
def eR (ts:List Th):PyData->PyData
 | .str s=>match AD ts s with | some v=>.tuple [.str s,.int v.1,.int v.2] | none=>.none
 | d=>d
theorem i9 {ts:List Th}{ss:List Str}(nd:(ts.map (·.1)).Nodup) (p:ss.Perm (ts.map (·.1))) (h:xG ss=true):(ss.map a0X).map (eR ts)=(B9 ts).map thD:=by
 have nd2:ss.Nodup:=p.nodup_iff.mpr nd
 have e:ss=(B9 ts).map (·.1):=UW (p.trans ((BY ts).map (·.1)).symm) (aX h nd2) (MX nd)
 rw[e,zD,zD]
 apply yM
 intro t ht
 have:=FA nd ((BY ts).mem_iff.mp ht)
 simp only[Function.comp,eR,this]
 rfl
def wT (s:String):PyData:=.str (a0Q s)
theorem wX (a b c:PyData):AX [wT "put", a,b,c]=(BK a&&(DY b&&(FR c&&true))&&true):=rfl
theorem qR (a:PyData):AX [wT "take", a]=(BK a&&true&&true):=rfl
theorem qS (a b:PyData):AX [wT "move", a,b]=(BK a&&(DY b&&true)&&true):=rfl
theorem mN (a b:PyData):AX [wT "count", a,b]=(BK a&&(FR b&&true)&&true):=rfl
theorem qT (a b:PyData):AX [wT "name", a,b]=(BK a&&(BK b&&true)&&(!a0W a b)):=rfl
theorem qU (a b:PyData):AX [wT "join", a,b]=(BK a&&(BK b&&true)&&(!a0W a b)):=rfl
theorem mO (a b c d:PyData):AX [wT "split", a,b,c,d]=(BK a&&(BK b&&(DY c&&(FR d&&true)))&&(!a0W a b)):=rfl
theorem Q6 {D:Deed}(h:D.real):eQ D.d=true:=by
 obtain⟨h1,nd,pl⟩:=h
 have nm:∀x∈D.names,BK (.str x)=true:=fun x hx=>QW (h1 x hx)
 have ne:∀x y:Str,x≠y->a0W (.str x) (.str y)=false:=fun x y hn=>by simp[a0W,hn]
 have pp:∀p:Int,0<=p/\p<=999->DY (.int p)=true:=fun p hp=>by
   show(decide (0<=p)&&decide (p<=999))=true
   rw[decide_eq_true hp.1,decide_eq_true hp.2];rfl
 cases D with
 | put x p k=>show AX [wT "put", .str x,.int p,.int k]=true;rw[wX,nm x (by simp[Deed.names]),pp p pl];rfl
 | take x=>show AX [wT "take", .str x]=true;rw[qR,nm x (by simp[Deed.names])];rfl
 | move x p=>show AX [wT "move", .str x,.int p]=true;rw[qS,nm x (by simp[Deed.names]),pp p pl];rfl
 | count x k=>show AX [wT "count", .str x,.int k]=true;rw[mN,nm x (by simp[Deed.names])];rfl
 | name x y=>show AX [wT "name", .str x,.str y]=true;rw[qT,nm x (by simp[Deed.names]),nm y (by simp[Deed.names]),ne x y nd];rfl
 | split x y p k=>show AX [wT "split", .str x,.str y,.int p,.int k]=true;rw[mO,nm x (by simp[Deed.names]),nm y (by simp[Deed.names]),ne x y nd,pp p pl];rfl
 | join x y=>show AX [wT "join", .str x,.str y]=true;rw[qU,nm x (by simp[Deed.names]),nm y (by simp[Deed.names]),ne x y nd];rfl
theorem WE {D:Deed}(h:D.ok):okP D.d:=by
 have wk:∀s:Str,(decide (s.cps.size<=5000)&&s.cps.toList.all (fun c=>decide (c < 128)))=true->okD (.str s):=fun s h=>by
   simp only[a0V,decide_eq_true_eq,a6W] at h
   exact h
 have nk:∀x∈D.names,okD (.str x):=fun x hx=>MM (h x hx)
 cases D <;> (refine⟨by simp,?_⟩;simp only[a2J])
 · exact⟨wk _ (by decide +kernel),nk _ (by simp[Deed.names]),trivial,trivial,by simp⟩
 · exact⟨wk _ (by decide +kernel),nk _ (by simp[Deed.names]),by simp⟩
 · exact⟨wk _ (by decide +kernel),nk _ (by simp[Deed.names]),trivial,by simp⟩
 · exact⟨wk _ (by decide +kernel),nk _ (by simp[Deed.names]),trivial,by simp⟩
 · exact⟨wk _ (by decide +kernel),nk _ (by simp[Deed.names]),nk _ (by simp[Deed.names]),by simp⟩
 · exact⟨wk _ (by decide +kernel),nk _ (by simp[Deed.names]),nk _ (by simp[Deed.names]),trivial,trivial,by simp⟩
 · exact⟨wk _ (by decide +kernel),nk _ (by simp[Deed.names]),nk _ (by simp[Deed.names]),by simp⟩
theorem qV (D:Deed) (n:Str):a0W (.str n) (IT D.d)=decide (D.made=some n):=by
 rw[WA]
 cases h:D.made with
 | none=>simp[a0W]
 | some x=>simp only[a0W,Option.some.injEq];rw[b0Q];simp;exact eq_comm
theorem iE (a b:Bool):a0W (.bool a) (.bool b)=(a==b):=by cases a <;> cases b <;> rfl
theorem Z7 {ts:List Th}{x:Str}{p c:Int}(h:x∈ts.map (·.1)):KU ts x p c=ts.map fun t=>if t.1=x then (t.1,p,c) else t:=by
 unfold KU
 obtain⟨t,ht,e⟩:=zL.mp h
 rw[if_pos (List.any_eq_true.mpr ⟨t,ht,by simpa using e⟩)]
theorem MY {ts:List Th}{x:Str}{p c:Int}(h:x∉ts.map (·.1)):KU ts x p c=ts++[(x,p,c)]:=by
 unfold KU
 rw[if_neg]
 intro e
 obtain⟨t,ht,e⟩:=List.any_eq_true.mp e
 exact h (zL.mpr ⟨t,ht,by simpa using e⟩)
theorem RU {ts:List Th}{x:Str}{p c:Int}(h:x∈ts.map (·.1)):(KU ts x p c).map (·.1)=ts.map (·.1):=by
 rw[Z7 h,zD]
 apply yM
 intro t _
 simp only[Function.comp]
 split <;> rfl
theorem BO {ts:List Th}{x:Str}(h:x∈ts.map (·.1)):∃v,AD ts x=some v:=by
 cases e:AD ts x with
 | none=>exact absurd h (FV.mp e)
 | some v=>exact⟨v,rfl⟩
theorem eU {ts:List Th}{x:Str}{v:Int×Int}(h:AD ts x=some v):x∈ts.map (·.1):=zL.mpr ⟨_,E2 h,rfl⟩
theorem E3 {ts:List Th}{x:Str}{k:Int}:(KW ts x k).map (·.1)=ts.map (·.1):=by
 unfold KW
 cases e:AD ts x with
 | none=>rfl
 | some v=>exact RU (eU e)
theorem mP {ts:List Th}{x:Str}{k:Int}:(KW ts x k).length=ts.length:=by
 have:=congrArg c3Q (E3 (ts:=ts) (x:=x) (k:=k))
 simpa using this
theorem ID {M:Own}{p p':Addr}{ts ts':List Th}{D D':Deed}(m:M p=some (tsO ts)) (e:[DS.loc p,.d D.d]=[.loc p',.d D'.d]) (m':M p'=some (tsO ts')):p=p'/\ts=ts'/\D=D':=by
 simp only[List.cons.injEq,DS.loc.injEq,DS.d.injEq,and_true] at e
 obtain⟨rfl,e⟩:=e
 exact⟨rfl,WC (Option.some.inj (m.symm.trans m')),JK e⟩
theorem wY {w w':List Th}{D D':Deed}(e:[DS.d (wD w),.d D.d]=[.d (wD w'),.d D'.d]):w=w'/\D=D':=by
 simp only[List.cons.injEq,DS.d.injEq,and_true] at e
 exact⟨WB e.1,JK e.2⟩
theorem Q7 {ts:List Th}(h:ts.length < 64):(tsD ts).length < sizeLine:=by unfold tsD;rw[zX];exact zP h (by decide)
theorem GC (ts:List Th) (x:Str):(JH ts x).map (·.1)=(ts.map (·.1)).filter fun n=>decide (n≠x):=by
 unfold JH
 rw[List.filter_map];rfl
def B6 (ns:List Str):Deed->List Str
 | .put x _ _=>ns++[x]
 | .take x=>ns.filter fun n=>decide (n≠x)
 | .move _ _=>ns
 | .count _ _=>ns
 | .name x y=>(ns.filter fun n=>decide (n≠x))++[y]
 | .split _ y _ _=>ns++[y]
 | .join _ y=>ns.filter fun n=>decide (n≠y)
theorem JL {ns:List Str}{D:Deed}(ha:BA ns D=none) {n:Str}(hn:n∈D.names) (hm:D.made≠some n):n∈ns:=(GB ha n hn).mpr hm
theorem LU {ns:List Str}{D:Deed}(ha:BA ns D=none) {n:Str}(hn:n∈D.names) (hm:D.made=some n):n∉ns:=fun q=>(GB ha n hn).mp q hm
theorem O4 {ts:List Th}{D:Deed}(hr:D.real) (ha:BA (ts.map (·.1)) D=none):(doT ts D).map (·.1)=B6 (ts.map (·.1)) D:=by
 cases D with
 | put x p k=>
   show(KU ts x p k).map (·.1)=_
   rw[MY (LU ha (by simp[Deed.names]) rfl),xI];rfl
 | take x=>exact GC ts x
 | move x p=>
   obtain⟨v,hv⟩:=BO (JL ha (n:=x) (by simp[Deed.names]) (by simp[Deed.made]))
   simp only[doT,hv]
   exact RU (eU hv)
 | count x k=>exact E3
 | name x y=>
   obtain⟨v,hv⟩:=BO (JL ha (n:=x) (by simp[Deed.names]) (by simp[Deed.made];exact fun e=>hr.2.1 e.symm))
   simp only[doT,hv]
   have hy:y∉(JH ts x).map (·.1):=by
     rw[GC]
     intro q
     exact LU ha (n:=y) (by simp[Deed.names]) rfl (yL.mp q).1
   rw[MY hy,xI,GC];rfl
 | split x y p k=>
   show(KU (KW ts x (-k)) y p k).map (·.1)=_
   have hy:y∉(KW ts x (-k)).map (·.1):=by
     rw[E3]
     exact LU ha (n:=y) (by simp[Deed.names]) rfl
   rw[MY hy,xI,E3];rfl
 | join x y=>
   obtain⟨v,hv⟩:=BO (JL ha (n:=y) (by simp[Deed.names]) (by simp[Deed.made]))
   simp only[doT,hv]
   rw[GC,E3];rfl
theorem WF {ns:List Str}{D:Deed}(nd:ns.Nodup) (ha:BA ns D=none):(B6 ns D).Nodup:=by
 have app:∀{l:List Str}{y:Str},l.Nodup->y∉l->(l++[y]).Nodup:=fun {l y} h1 h2=>by
   rw[List.nodup_append]
   exact⟨h1,by simp,fun a ha b hb e=>by simp at hb;subst hb;subst e;exact h2 ha⟩
 cases D with
 | put x p k=>exact app nd (LU ha (by simp[Deed.names]) rfl)
 | take x=>exact nd.sublist b4K
 | move x p=>exact nd
 | count x k=>exact nd
 | name x y=>exact app (nd.sublist b4K) fun q=>LU ha (n:=y) (by simp[Deed.names]) rfl (yL.mp q).1
 | split x y p k=>exact app nd (LU ha (n:=y) (by simp[Deed.names]) rfl)
 | join x y=>exact nd.sublist b4K
theorem RV (ns:List Str) (D:Deed):(B6 ns D).length<=ns.length+1:=by
 cases D <;> simp only[B6,yY,yR,a8X]
 all_goals first | omega | exact zN (yJ _ _) (b9K _) | exact a5J (yJ _ _) 1
theorem c7 {ts:List Th}{D:Deed}(h:goD ts D):((doT ts D).map (·.1)).Nodup/\(doT ts D).length < 64:=by
 obtain⟨⟨nd,hl⟩,hr,ha⟩:=h
 have e:=O4 hr ha
 refine⟨by rw[e];exact WF nd ha,?_⟩
 have h1:=RV (ts.map (·.1)) D
 have h2:=congrArg c3Q e
 simp only[zX] at h1 h2
 omega
end DL
namespace DL
open PySem PySem.Spec L2
theorem JM (ts:List Th) (x:Str) (p c:Int) (n:Str):AD (KU ts x p c) n=if n=x then some (p,c) else AD ts n:=by
 by_cases h:x∈ts.map (·.1)
 · rw[Z7 h]
   induction ts with
   | nil=>simp at h
   | cons t r ih=>
     rw[zI]
     by_cases e:t.1=x
     · rw[if_pos e]
       unfold AD
       by_cases en:n=x
       · subst en;rw[if_pos e,if_pos rfl]
       · have e1:¬t.1=n:=fun q=>en (q.symm.trans e)
         rw[if_neg e1,if_neg en,if_neg e1]
         by_cases hr:x∈r.map (·.1)
         · rw[ih hr,if_neg en]
         · have hm:(r.map fun t=>if t.1=x then (t.1,p,c) else t)=r:=by
             conv=>rhs;rw[← c2V r]
             apply yM
             intro u hu
             rw[if_neg fun q=>hr (by rw[← q];exact zL.mpr ⟨u,hu,rfl⟩)];rfl
           rw[hm]
     · rw[if_neg e]
       have hr:x∈r.map (·.1):=by
         rw[zI,yX] at h
         exact h.resolve_left fun q=>e q.symm
       unfold AD
       by_cases e1:t.1=n
       · rw[if_pos e1,if_pos e1,if_neg fun q=>e (e1.trans q)]
       · rw[if_neg e1,if_neg e1,ih hr]
 · rw[MY h]
   have:∀ts:List Th,x∉ts.map (·.1)->AD (ts++[(x,p,c)]) n=if n=x then some (p,c) else AD ts n:=by
     intro ts
     induction ts with
     | nil=>
       intro _
       show(if x=n then _ else _)=_
       by_cases e:n=x
       · rw[if_pos e,if_pos e.symm]
       · rw[if_neg e,if_neg fun q=>e q.symm]
     | cons t r ih=>
       intro hx
       rw[zI,yX] at hx
       rw[List.cons_append]
       unfold AD
       by_cases e1:t.1=n
       · rw[if_pos e1,if_pos e1,if_neg fun q=>hx (.inl (e1.trans q).symm)]
       · rw[if_neg e1,if_neg e1,ih fun q=>hx (.inr q)]
   exact this ts h
theorem O5 (ts:List Th) (x n:Str):AD (JH ts x) n=if n=x then none else AD ts n:=by
 induction ts with
 | nil=>show none=_;split <;> rfl
 | cons t r ih=>
   unfold JH at ih ⊢
   rw[a8V]
   by_cases e:t.1=x
   · rw[if_neg (by simp[e]),ih]
     by_cases en:n=x
     · rw[if_pos en,if_pos en]
     · rw[if_neg en,if_neg en]
       conv=>rhs;unfold AD
       rw[if_neg fun q=>en (q.symm.trans e)]
   · rw[if_pos (by simpa using e)]
     unfold AD
     rw[ih]
     by_cases e1:t.1=n
     · rw[if_pos e1,if_pos e1,if_neg fun q=>e (e1.trans q)]
     · rw[if_neg e1,if_neg e1]
theorem RW (ts:List Th) (x:Str) (k:Int) (n:Str):AD (KW ts x k) n=if n=x then (AD ts x).map fun v=>(v.1,v.2+k) else AD ts n:=by
 unfold KW
 cases h:AD ts x with
 | none=>
   by_cases e:n=x
   · subst e;rw[if_pos rfl,h];rfl
   · rw[if_neg e]
 | some v=>rw[JM];rfl
theorem MZ {ts:List Th}(nd:(ts.map (·.1)).Nodup) {t:Th}:t∈ts↔AD ts t.1=some t.2:=⟨fun h=>FA nd h,fun h=>E2 h⟩
theorem iF {as bs:List Th}(n1:(as.map (·.1)).Nodup) (p:as.Perm bs) (n:Str):AD as n=AD bs n:=by
 have n2:(bs.map (·.1)).Nodup:=(p.map (·.1)).nodup_iff.mp n1
 cases h:AD as n with
 | none=>
   cases h2:AD bs n with
   | none=>rfl
   | some v=>exact absurd (zL.mpr ⟨_,p.mem_iff.mpr (E2 h2),rfl⟩) (FV.mp h)
 | some v=>exact((MZ n2 (t:=(n,v))).mp (p.mem_iff.mp (E2 h))).symm
theorem iG {as bs:List Th}(n1:(as.map (·.1)).Nodup) (n2:(bs.map (·.1)).Nodup) (h:∀n,AD as n=AD bs n):as.Perm bs:=by
 have nd:∀{l:List Th},(l.map (·.1)).Nodup->l.Nodup:=fun {l} h=>by
   unfold List.Nodup at h ⊢
   rw[b2W] at h
   exact h.imp fun {a b} q e=>q (by rw[e])
 rw[List.perm_ext_iff_of_nodup (nd n1) (nd n2)]
 intro t
 rw[MZ n1,MZ n2,h]
theorem iH {ts w:List Th}(nd:(ts.map (·.1)).Nodup) (hw:Ris (w.map (·.1))) (h:∀n,AD ts n=AD w n):B9 ts=w:=
 (i7 (iG hw.nodup nd fun n=>(h n).symm) hw).symm
theorem mQ {ts:List Th}(nd:(ts.map (·.1)).Nodup) (n:Str):AD (B9 ts) n=AD ts n:=
 iF (((BY ts).map (·.1)).nodup_iff.mpr nd) (BY ts) n
def DW (w:List Th):Prop:=Ris (w.map (·.1))/\∀t∈w,AG t.1/\0<=t.2.1/\t.2.1<=999
theorem KN {w:List Th}(h:DW w) {x:Str}{v:Int×Int}(e:AD w x=some v):AG x/\0<=v.1/\v.1<=999:=h.2 _ (E2 e)
theorem FB {ts:List Th}{D:Deed}(hr:D.real) (ha:BA (ts.map (·.1)) D=none) (n:Str) :
   AD (doT ts D) n=match D with
     | .put x p k=>if n=x then some (p,k) else AD ts n
     | .take x=>if n=x then none else AD ts n
     | .move x p=>if n=x then (AD ts x).map fun v=>(p,v.2) else AD ts n
     | .count x k=>if n=x then (AD ts x).map fun v=>(v.1,v.2+k) else AD ts n
     | .name x y=>if n=y then AD ts x else if n=x then none else AD ts n
     | .split x y p k=>if n=y then some (p,k) else if n=x then (AD ts x).map fun v=>(v.1,v.2 + -k) else AD ts n
     | .join x y=>if n=y then none else if n=x then (AD ts x).bind fun v=>(AD ts y).map fun u=>(v.1,v.2+u.2) else AD ts n:=by
 cases D with
 | put x p k=>exact JM _ _ _ _ _
 | take x=>exact O5 _ _ _
 | move x p=>
   obtain⟨v,hv⟩:=BO (JL ha (n:=x) (by simp[Deed.names]) (by simp[Deed.made]))
   simp only[doT,hv]
   exact JM _ _ _ _ _
 | count x k=>exact RW _ _ _ _
 | name x y=>
   obtain⟨v,hv⟩:=BO (JL ha (n:=x) (by simp[Deed.names]) (by simp[Deed.made];exact fun e=>hr.2.1 e.symm))
   simp only[doT,hv]
   rw[JM,O5]
 | split x y p k=>
   show AD (KU (KW ts x (-k)) y p k) n=_
   rw[JM,RW]
 | join x y=>
   obtain⟨v,hv⟩:=BO (JL ha (n:=x) (by simp[Deed.names]) (by simp[Deed.made]))
   obtain⟨u,hu⟩:=BO (JL ha (n:=y) (by simp[Deed.names]) (by simp[Deed.made]))
   simp only[doT,hu]
   rw[O5,RW,hv];rfl
theorem c8 {w:List Th}{D:Deed}(h:goD w D) {n:Str}(hn:n∈D.names) (hm:D.made≠some n):∃v,AD w n=some v:=BO (JL h.2.2 hn hm)
theorem wZ {w:List Th}{D:Deed}(h:goD w D) {n:Str}(hn:n∈D.names) (hm:D.made=some n):AD w n=none:=FV.mpr (LU h.2.2 hn hm)
theorem CS {ns:List Str}{D:Deed}(h:∀n∈D.names,(n∈ns)↔¬D.made=some n):BA ns D=none:=by
 unfold BA
 rw[List.find?_eq_none]
 intro n hn
 have:=h n hn
 by_cases h1:n∈ns <;> by_cases h2:D.made=some n <;> simp_all
theorem mR {ts:List Th}{n:Str}:n∈ts.map (·.1)↔(AD ts n).isSome=true:=by rw[IC];simp
theorem mS {w:List Th}{D:Deed}(hw:DW w) (hg:goD w D) (hl:w.length < 60) :
   goD (B9 (doT w D)) (CQ w D)/\B9 (doT (B9 (doT w D)) (CQ w D))=w/\CQ (B9 (doT w D)) (CQ w D)=D/\DW (B9 (doT w D))/\(B9 (doT w D)).length<=w.length+1:=by
 have hr:=hg.2.1
 have ha:=hg.2.2
 obtain⟨nd,_⟩:=c7 hg
 have L:∀n,AD (B9 (doT w D)) n=AD (doT w D) n:=mQ nd
 have ndr:((B9 (doT w D)).map (·.1)).Nodup:=((BY _).map (·.1)).nodup_iff.mpr nd
 have hlen:(B9 (doT w D)).length<=w.length+1:=by
   rw[(BY _).length_eq]
   have h1:=RV (w.map (·.1)) D
   have h2:=congrArg c3Q (O4 hr ha)
   simp only[zX] at h1 h2
   omega
 have fw:DW (B9 (doT w D)):=by
   refine⟨MX nd,fun t ht=>?_⟩
   have hk:AD (doT w D) t.1=some t.2:=by rw[← L];exact(MZ ndr).mp ht
   rw[FB hr ha] at hk
   have old:∀{n:Str}{v:Int×Int},AD w n=some v->AG n/\0<=v.1/\v.1<=999:=fun e=>KN hw e
   cases D with
   | put x p k=>
     dsimp only at hk
     split at hk
     · rename_i e;have hk:=Option.some.inj hk;rw[e,← hk];exact⟨hr.1 x (by simp[Deed.names]),hr.2.2.1,hr.2.2.2⟩
     · exact old hk
   | take x=>
     dsimp only at hk
     split at hk
     · cases hk
     · exact old hk
   | move x p=>
     dsimp only at hk
     split at hk
     · rename_i e
       obtain⟨v,hv,e2⟩:=Option.map_eq_some_iff.mp hk
       rw[e,← e2];exact⟨(old hv).1,hr.2.2.1,hr.2.2.2⟩
     · exact old hk
   | count x k=>
     dsimp only at hk
     split at hk
     · rename_i e
       obtain⟨v,hv,e2⟩:=Option.map_eq_some_iff.mp hk
       rw[e,← e2];exact⟨(old hv).1,(old hv).2⟩
     · exact old hk
   | name x y=>
     dsimp only at hk
     split at hk
     · rename_i e;rw[e];exact⟨hr.1 y (by simp[Deed.names]),(old hk).2⟩
     · split at hk
       · cases hk
       · exact old hk
   | split x y p k=>
     dsimp only at hk
     split at hk
     · rename_i e;have hk:=Option.some.inj hk;rw[e,← hk];exact⟨hr.1 y (by simp[Deed.names]),hr.2.2.1,hr.2.2.2⟩
     · split at hk
       · rename_i e
         obtain⟨v,hv,e2⟩:=Option.map_eq_some_iff.mp hk
         rw[e,← e2];exact⟨(old hv).1,(old hv).2⟩
       · exact old hk
   | join x y=>
     dsimp only at hk
     split at hk
     · cases hk
     · split at hk
       · rename_i e
         obtain⟨v,hv,e2⟩:=Option.bind_eq_some_iff.mp hk
         obtain⟨u,hu,e3⟩:=Option.map_eq_some_iff.mp e2
         rw[e,← e3];exact⟨(old hv).1,(old hv).2⟩
       · exact old hk
 have core:goD (B9 (doT w D)) (CQ w D)/\(∀n,AD (doT (B9 (doT w D)) (CQ w D)) n=AD w n)/\CQ (B9 (doT w D)) (CQ w D)=D:=by
   have can:UV (B9 (doT w D)):=⟨ndr,by omega⟩
   have LD:∀n,AD (B9 (doT w D)) n=_:=fun n=>(L n).trans (FB hr ha n)
   have mk:∀B:Deed,B.real->(∀n∈B.names,((AD (B9 (doT w D)) n).isSome=true)↔¬B.made=some n)->goD (B9 (doT w D)) B:=fun B h1 h2=>⟨can,h1,CS fun n hn=>mR.trans (h2 n hn)⟩
   cases D with
   | put x p k=>
     have hx:=wZ hg (n:=x) (by simp[Deed.names]) rfl
     have g:goD (B9 (doT w (.put x p k))) (.take x):=mk (.take x) ⟨fun n hn=>hr.1 n hn,trivial,trivial⟩ fun n hn=>by
       simp only[Deed.names,c0X] at hn;subst hn;rw[LD];simp[Deed.made]
     refine⟨g,fun n=>?_,?_⟩
     · show AD (doT (B9 (doT w (.put x p k))) (.take x)) n=_
       rw[FB g.2.1 g.2.2]
       dsimp only
       rw[LD]
       dsimp only
       by_cases e:n=x
       · rw[if_pos e,e,hx]
       · rw[if_neg e,if_neg e]
     · have lx:AD (B9 (doT w (.put x p k))) x=some (p,k):=by rw[LD];simp
       simp only[CQ,lx]
   | take x=>
     obtain⟨v,hv⟩:=c8 hg (n:=x) (by simp[Deed.names]) (by simp[Deed.made])
     have eb:CQ w (.take x) = .put x v.1 v.2:=by simp only[CQ,hv]
     rw[eb]
     have g:goD (B9 (doT w (.take x))) (.put x v.1 v.2):=mk (.put x v.1 v.2) ⟨fun n hn=>hr.1 n hn,trivial,(KN hw hv).2⟩ fun n hn=>by
       simp only[Deed.names,c0X] at hn;subst hn;rw[LD];simp[Deed.made]
     refine⟨g,fun n=>?_,rfl⟩
     rw[FB g.2.1 g.2.2]
     dsimp only
     rw[LD]
     dsimp only
     by_cases e:n=x
     · rw[if_pos e,e,hv]
     · rw[if_neg e,if_neg e]
   | move x p=>
     obtain⟨v,hv⟩:=c8 hg (n:=x) (by simp[Deed.names]) (by simp[Deed.made])
     have eb:CQ w (.move x p) = .move x v.1:=by simp only[CQ,hv]
     rw[eb]
     have lx:AD (B9 (doT w (.move x p))) x=some (p,v.2):=by rw[LD];simp[hv]
     have g:goD (B9 (doT w (.move x p))) (.move x v.1):=mk (.move x v.1) ⟨fun n hn=>hr.1 n hn,trivial,(KN hw hv).2⟩ fun n hn=>by
       simp only[Deed.names,c0X] at hn;subst hn;rw[lx];simp[Deed.made]
     refine⟨g,fun n=>?_,by simp only[CQ,lx]⟩
     rw[FB g.2.1 g.2.2]
     dsimp only
     rw[lx]
     by_cases e:n=x
     · rw[if_pos e,e,hv];rfl
     · rw[if_neg e,LD]
       dsimp only
       rw[if_neg e]
   | count x k=>
     obtain⟨v,hv⟩:=c8 hg (n:=x) (by simp[Deed.names]) (by simp[Deed.made])
     have eb:CQ w (.count x k) = .count x (-k):=rfl
     rw[eb]
     have lx:AD (B9 (doT w (.count x k))) x=some (v.1,v.2+k):=by rw[LD];simp[hv]
     have g:goD (B9 (doT w (.count x k))) (.count x (-k)):=mk (.count x (-k)) ⟨fun n hn=>hr.1 n hn,trivial,trivial⟩ fun n hn=>by
       simp only[Deed.names,c0X] at hn;subst hn;rw[lx];simp[Deed.made]
     refine⟨g,fun n=>?_,by simp only[CQ,Int.neg_neg]⟩
     rw[FB g.2.1 g.2.2]
     dsimp only
     rw[lx]
     by_cases e:n=x
     · rw[if_pos e,e,hv]
       show some (v.1,v.2+k + -k)=some v
       rw[Int.add_neg_cancel_right]
     · rw[if_neg e,LD]
       dsimp only
       rw[if_neg e]
   | name x y=>
     have hxy:x≠y:=hr.2.1
     obtain⟨v,hv⟩:=c8 hg (n:=x) (by simp[Deed.names]) (by simp[Deed.made];exact fun e=>hxy e.symm)
     have hy:=wZ hg (n:=y) (by simp[Deed.names]) rfl
     have eb:CQ w (.name x y) = .name y x:=rfl
     rw[eb]
     have ly:AD (B9 (doT w (.name x y))) y=some v:=by rw[LD];simp[hv]
     have lx:AD (B9 (doT w (.name x y))) x=none:=by rw[LD];simp[hxy]
     have g:goD (B9 (doT w (.name x y))) (.name y x):=mk (.name y x) ⟨fun n hn=>hr.1 n (by simp[Deed.names] at hn ⊢;exact hn.symm),fun e=>hxy e.symm,trivial⟩ fun n hn=>by
       simp only[Deed.names,yX,xX,or_false] at hn
       rcases hn with rfl | rfl
       · rw[ly];simp[Deed.made];exact hxy
       · rw[lx];simp[Deed.made]
     refine⟨g,fun n=>?_,rfl⟩
     rw[FB g.2.1 g.2.2]
     dsimp only
     rw[ly]
     by_cases e:n=x
     · rw[if_pos e,e,hv]
     · rw[if_neg e]
       by_cases e2:n=y
       · rw[if_pos e2,e2,hy]
       · rw[if_neg e2,LD]
         dsimp only
         rw[if_neg e2,if_neg e]
   | split x y p k=>
     have hxy:x≠y:=hr.2.1
     obtain⟨v,hv⟩:=c8 hg (n:=x) (by simp[Deed.names]) (by simp[Deed.made];exact fun e=>hxy e.symm)
     have hy:=wZ hg (n:=y) (by simp[Deed.names]) rfl
     have eb:CQ w (.split x y p k) = .join x y:=rfl
     rw[eb]
     have ly:AD (B9 (doT w (.split x y p k))) y=some (p,k):=by rw[LD];simp
     have lx:AD (B9 (doT w (.split x y p k))) x=some (v.1,v.2 + -k):=by rw[LD];simp[hxy,hv]
     have g:goD (B9 (doT w (.split x y p k))) (.join x y):=mk (.join x y) ⟨fun n hn=>hr.1 n hn,hxy,trivial⟩ fun n hn=>by
       simp only[Deed.names,yX,xX,or_false] at hn
       rcases hn with rfl | rfl
       · rw[lx];simp[Deed.made]
       · rw[ly];simp[Deed.made]
     refine⟨g,fun n=>?_,by simp only[CQ,ly]⟩
     rw[FB g.2.1 g.2.2]
     dsimp only
     rw[lx,ly]
     by_cases e:n=y
     · rw[if_pos e,e,hy]
     · rw[if_neg e]
       by_cases e2:n=x
       · rw[if_pos e2,e2,hv]
         show some (v.1,v.2 + -k+k)=some v
         rw[Int.neg_add_cancel_right]
       · rw[if_neg e2,LD]
         dsimp only
         rw[if_neg e,if_neg e2]
   | join x y=>
     have hxy:x≠y:=hr.2.1
     obtain⟨v,hv⟩:=c8 hg (n:=x) (by simp[Deed.names]) (by simp[Deed.made])
     obtain⟨u,hu⟩:=c8 hg (n:=y) (by simp[Deed.names]) (by simp[Deed.made])
     have eb:CQ w (.join x y) = .split x y u.1 u.2:=by simp only[CQ,hu]
     rw[eb]
     have ly:AD (B9 (doT w (.join x y))) y=none:=by rw[LD];simp
     have lx:AD (B9 (doT w (.join x y))) x=some (v.1,v.2+u.2):=by rw[LD];simp[hxy,hv,hu]
     have g:goD (B9 (doT w (.join x y))) (.split x y u.1 u.2):=mk (.split x y u.1 u.2) ⟨fun n hn=>hr.1 n hn,hxy,(KN hw hu).2⟩ fun n hn=>by
       simp only[Deed.names,yX,xX,or_false] at hn
       rcases hn with rfl | rfl
       · rw[lx];simp[Deed.made];exact fun e=>hxy e.symm
       · rw[ly];simp[Deed.made]
     refine⟨g,fun n=>?_,rfl⟩
     rw[FB g.2.1 g.2.2]
     dsimp only
     rw[lx]
     by_cases e:n=y
     · rw[if_pos e,e,hu]
     · rw[if_neg e]
       by_cases e2:n=x
       · rw[if_pos e2,e2,hv]
         show some (v.1,v.2+u.2 + -u.2)=some v
         rw[Int.add_neg_cancel_right]
       · rw[if_neg e2,LD]
         dsimp only
         rw[if_neg e,if_neg e2]
 obtain⟨c1,c2,c3⟩:=core
 exact⟨c1,iH (c7 c1).1 hw.1 c2,c3,fw,hlen⟩
end DL
namespace DL
open PySem PySem.Spec L2
def JN (w:List Th) (D:Deed):List Th:=B9 (doT w D)
def L5:List Th->List Deed->Prop
 | _,[]=>True
 | w,D::r=>goD w D/\L5 (JN w D) r
def T3:List Th->List Deed->List Th
 | w,[]=>w
 | w,D::r=>T3 (JN w D) r
theorem UX:∀{Ds:List Deed}{w:List Th}{D:Deed},L5 w Ds->goD (T3 w Ds) D->L5 w (Ds++[D])
 | [],_,_,_,h=>⟨h,trivial⟩
 | _::_,_,_,h,g=>⟨h.1,UX h.2 g⟩
theorem Z8:∀{Ds:List Deed}{w:List Th}{D:Deed},T3 w (Ds++[D])=JN (T3 w Ds) D
 | [],_,_=>rfl
 | _::Ds,w,D=>Z8 (Ds:=Ds)
def C6 (sp:List Str) (D:Deed):List Str:=match D.made with | some _=>sp.drop 1 | none=>sp
theorem c9 {as bs:List Str}(p:as.Perm bs) (D:Deed):BA as D=BA bs D:=by
 unfold BA
 congr 1
 funext n
 rw[show decide (n∈as)=decide (n∈bs) from by rw[b0Q];simp[p.mem_iff]]
theorem Z9 {as bs:List Str}(p:as.Perm bs) (D:Deed):(B6 as D).Perm (B6 bs D):=by
 cases D with
 | put x q k=>exact p.append_right _
 | take x=>exact p.filter _
 | move x q=>exact p
 | count x k=>exact p
 | name x y=>exact(p.filter _).append_right _
 | split x y q k=>exact p.append_right _
 | join x y=>exact p.filter _
theorem cA {w:List Th}{D:Deed}(h:goD w D):((JN w D).map (·.1)).Perm (B6 (w.map (·.1)) D):=by
 rw[← O4 h.2.1 h.2.2]
 exact(BY _).map _
theorem HC {so sp:List Str}{D:Deed}(h:∀n,D.made=some n->sp.head?=some n):(B6 so D++C6 sp D).Sublist (so++sp):=by
 have hd:∀n,D.made=some n->sp=n::sp.drop 1:=fun n e=>by
   have:=h n e
   cases sp with
   | nil=>simp at this
   | cons a r=>simp at this;subst this;rfl
 cases D with
 | put x p k=>
   show((so++[x])++sp.drop 1).Sublist _
   conv=>rhs;rw[hd x rfl]
   rw[a8Q]
   exact a5Z _
 | take x=>exact(b4K).append (a5Z _)
 | move x p=>exact a5Z _
 | count x k=>exact a5Z _
 | name x y=>
   show(((so.filter fun n=>decide (n≠x))++[y])++sp.drop 1).Sublist _
   conv=>rhs;rw[hd y rfl]
   rw[a8Q]
   exact List.filter_sublist.append (a5Z _)
 | split x y p k=>
   show((so++[y])++sp.drop 1).Sublist _
   conv=>rhs;rw[hd y rfl]
   rw[a8Q]
   exact a5Z _
 | join x y=>exact(b4K).append (a5Z _)
def namesOK (ys:List Str):Prop:=(∀z∈ys,AG z)/\ys.Nodup/\ys.length<=26
theorem namesOK.sub {as bs:List Str}(h:namesOK bs) (s:as.Sublist bs):namesOK as:=⟨fun z hz=>h.1 z (s.subset hz),h.2.1.sublist s,zN s.length_le h.2.2⟩
def B2 (ys:List Str):PyData:=.list (ys.map .str)
def DB:FSp:=⟨fun xs M=>∃(D:Deed) (so sp:List Str),xs=[.d D.d,.d (B2 so),.d (B2 sp)]/\D.real/\namesOK (so++sp)/\BA so D=none,
 fun xs M y M'=>∀(D:Deed) (so sp:List Str),xs=[.d D.d,.d (B2 so),.d (B2 sp)]->y = .d (.tuple [B2 (B6 so D),B2 (C6 sp D)])/\M'=M⟩
theorem RX {D:Deed}{so sp:List Str}{M:Own}{Q:DS->Own->Prop}(hr:D.real) (hn:namesOK (so++sp)) (ha:BA so D=none) (q:Q (.d (.tuple [B2 (B6 so D),B2 (C6 sp D)])) M) :
   [DS.d D.d,.d (B2 so),.d (B2 sp)].length=3/\DB.pre [.d D.d,.d (B2 so),.d (B2 sp)] M/\∀x M',DB.post [.d D.d,.d (B2 so),.d (B2 sp)] M x M'->Q x M':=
 ⟨rfl,⟨D,so,sp,rfl,hr,hn,ha⟩,fun x M' h=>by obtain⟨rfl,rfl⟩:=h D so sp rfl;exact q⟩
def BS (l:Str×Deed):PyData:=.tuple [.str l.1,l.2.d]
def AV (w:List Th) (ls:List (Str×Deed)):PyData:=.tuple [wD w,.tuple (ls.map BS)]
theorem UY {w:List Th}{D:Deed}(hw:DW w) (hg:goD w D) (hl:w.length < 60):DW (JN w D)/\(JN w D).length<=w.length+1:=by
 obtain⟨_,_,_,h1,h2⟩:=mS hw hg hl
 exact⟨h1,h2⟩
def IE:List Str:=["put", "move", "count", "name", "split", "join", "take", "count", "split"]
theorem iI:∀k∈IE,b4Q k=true:=by decide +kernel
theorem HD {k:Str}(h:k∈IE):zH (.str k)=true:=BX (iI k h) (by simp[a4V])
theorem DC {ys:List Str}(h:∀z∈ys,AG z):zH (B2 ys)=true:=Z0 fun z hz=>DZ (h z hz)
theorem CF (ys:List Str):a0W (B2 ys) (.list [])=ys.isEmpty:=PJ ys
theorem E4 {ys:List Str}{y:Str}:((ys.map a0X).filter fun d=>!a0W d (.str y)).map id=(ys.filter fun z=>decide (z≠y)).map .str:=by
 rw[c2V,List.filter_map]
 congr 1
 apply List.filter_congr
 intro z _
 show(!a0W (.str z) (.str y))=_
 rw[D8]
 by_cases e:z=y <;> simp[e]
theorem JO {as bs:List Str}(h:B2 as=B2 bs):as=bs:=YB (by unfold B2 at h;exact PyData.list.inj h)
theorem GD {p p':Addr}{so so' sp sp':List Str}(e:[DS.loc p,.d (B2 so),.d (B2 sp)]=[.loc p',.d (B2 so'),.d (B2 sp')]):p=p'/\so=so'/\sp=sp':=by
 simp only[List.cons.injEq,DS.loc.injEq,DS.d.injEq,and_true] at e
 exact⟨e.1,JO e.2.1,JO e.2.2⟩
theorem IF {D D':Deed}{so so' sp sp':List Str}(e:[DS.d D.d,.d (B2 so),.d (B2 sp)]=[.d D'.d,.d (B2 so'),.d (B2 sp')]):D=D'/\so=so'/\sp=sp':=by
 simp only[List.cons.injEq,DS.d.injEq,and_true] at e
 exact⟨JK e.1,JO e.2.1,JO e.2.2⟩
theorem eV {ys:List Str}(h:∀z∈ys,AG z):(ys.filter fun z=>decide (z≠a0Q ""))=ys:=List.filter_eq_self.mpr fun z hz=>by
 have:=(h z hz).1
 simp
 intro e
 rw[e] at this
 exact absurd this (by decide +kernel)
def wB2 (t:Th):Str×List PyData:=(t.1,[.int t.2.1,.int t.2.2])
def unB (u:Str×List PyData):Th:=match u with | (a,[.int p,.int c])=>(a,p,c) | (a,_)=>(a,0,0)
theorem mT (w:List Th):(w.map wB2).map O1=w.map thD:=by rw[zD];rfl
theorem mU {ts:List (Str×List PyData)}{w:List Th}(h:ts.Perm (w.map wB2)):(ts.map unB).Perm w/\ts.map O1=(ts.map unB).map thD/\(ts.map unB).map (·.1)=ts.map (·.1):=by
 have e:(w.map wB2).map unB=w:=by rw[zD];exact c2V _
 refine⟨by have:=h.map unB;rw[e] at this;exact this,?_,?_⟩
 · rw[zD]
   apply yM
   intro u hu
   obtain⟨t,_,rfl⟩:=zL.mp (h.mem_iff.mp hu)
   rfl
 · rw[zD]
   apply yM
   intro u hu
   obtain⟨t,_,rfl⟩:=zL.mp (h.mem_iff.mp hu)
   rfl
theorem cB {ts:List (Str×List PyData)}(h:ts.Pairwise fun x y=>x.1.cps.toList < y.1.cps.toList):Ris (ts.map (·.1)):=by
 unfold Ris
 rw[b2W]
 exact h.imp fun {a b} q=>by rw[← kX];exact decide_eq_true q
def wsF (w:List Th) (Ds:List Deed) (k:Nat):List Th:=T3 w (Ds.take k)
theorem qW {w:List Th}{Ds:List Deed}{k:Nat}{D:Deed}(h:Ds[k]?=some D):wsF w Ds (k+1)=JN (wsF w Ds k) D:=by
 unfold wsF
 rw[a4X,h]
 exact Z8
theorem WG:∀{Ds:List Deed}{w:List Th}{k:Nat},L5 w Ds->DW w->w.length+Ds.length < 60->k<=Ds.length->DW (wsF w Ds k)/\(wsF w Ds k).length<=w.length+k/\∀D,Ds[k]?=some D->goD (wsF w Ds k) D
 | [],w,k,_,hf,_,hk=>by
   have e:k=0:=by simpa using hk
   subst e
   exact⟨hf,zR _,fun D h=>by simp at h⟩
 | D::r,w,0,hb,hf,_,_=>⟨hf,zR _,fun D' h=>by simp at h;subst h;exact hb.1⟩
 | D::r,w,k+1,hb,hf,hl,hk=>by
   have hl':w.length+r.length+1 < 60:=by simpa [Nat.add_assoc] using hl
   obtain⟨f1,f2⟩:=UY hf hb.1 (by omega)
   obtain⟨a,b,c⟩:=WG (Ds:=r) (w:=JN w D) (k:=k) hb.2 f1 (by omega) (by simpa using hk)
   have e:wsF w (D::r) (k+1)=wsF (JN w D) r k:=rfl
   rw[e]
   exact⟨a,by omega,fun D' h=>c D' (by simpa using h)⟩
theorem mV {K:Frg}{M:Own}{Q:DS->Own->Prop}{a:Addr}{ds:List PyData}(m:M a=some (.l ds)) (q:Q (.d (.tuple ds)) M):DR K (QR K) [.loc a] M Q:=fun H vs QQ oa s k=>by
 obtain⟨v,r,rfl,h1,h2⟩:=s
 cases h2
 unfold SI at h1
 subst h1
 obtain⟨vs,h0,hd⟩:=oa a _ m
 refine⟨a,vs,rfl,.inl ⟨SqL.of h0,fun p hp=>?_⟩⟩
 have g:Grow K M.W M.W H (upd H p (.tup vs)):=AU _ hp
 refine k _ _ (.d (.tuple ds)) M (oa.new hp) ?_ ⟨g⟩ q
 unfold SI DV
 exact⟨p,vs,rfl,.inl ⟨fun w=>w (oa.none hp),.inl AH⟩,hd.grow g⟩
theorem ZA:∀z∈[a0Q "me", "you", "abcdefgh"],AG z:=by
 intro z hz
 simp only[yX,xX,or_false] at hz
 rcases hz with rfl | rfl | rfl <;> (refine⟨by decide +kernel,by decide +kernel,?_⟩;decide +kernel)
theorem iJ:xJ 915965594177219015054603514932384110774149374281672134266497<=256:=by decide +kernel
theorem qX {c:Int}(h:xJ c<=2 ^ 21):IntMulOk c 915965594177219015054603514932384110774149374281672134266497:=PySem.IntMulOk.of_le h iJ (by decide)
end DL
namespace L2
open PySem PySem.Spec PyProof.Rows
theorem ZB {prog:Program}{w:World}{A:Around}{I:Addr}{fp wr:List Addr}{G:Array GenState->Array GenState->Prop}{n:Nat}{P:Nat->Value->Prop}{St:Nat->Shared->Prop}
   (W:WalksS prog w A I fp wr G (n+1) P St):WalksS prog w A I fp wr G n (fun i v=>P (i+1) v) (fun i s=>St (i+1) s):=
 ⟨W.sub,W.grefl,W.gtrans,fun i=>W.frame (i+1),fun i s Q E hi st hQ=>W.item (i+1) s Q E (Nat.succ_lt_succ hi) st hQ,W.done,fun i=>W.self (i+1)⟩
section
variable {prog:Program}{w:World}{A:Around}{E:Value->Shared->Prop}{s:Shared}
theorem ZC {l:Addr}{x:Value}{xs:List Value}{Q:List Value->Shared->Prop}(hh:A.handled=none) (hl:s.heap.IsList l (x::xs).toArray) (hn:xs.length<=sizeLine)
   (hQ:∀(h':Heap) (k:Nat),(∀b o,s.heap.get? b=some o->h'.get? b=some o)->Q [x,.ref h'.objs.size] { s with heap:=h'.push { cls:=.type "list", data:=.seq xs.toArray },toks:=k }) :
   wpAny (model prog w) A (unpackItems (.ref l) 2 (some 1)) Q E s:=by
 have hne:l≠s.heap.objs.size:=by obtain⟨o,ho,_⟩:=hl;exact zC (zM ho)
 have hlt:l < s.heap.objs.size:=by obtain⟨o,ho,_⟩:=hl;exact zM ho
 unfold unpackItems;refine zZ ?_;unfold notIterableAtAll
 refine zZ (wpAny_specialOf hl.typeIs F.slot_list_iter.lookup ?_);refine zY ?_;simp only[b5K,if_false]
 refine zZ (wpAny_holding (wpAny_pyIter_list hl ?_))
 refine zZ (wpAny_holding (RG hne 1 0 _ _ ⟨_,yZ _ rfl,rfl,rfl⟩ (hl.push _) (by simp) fun g1 t1 q1=>?_))
 rw[show List.take 1 (List.drop 0 ((x::xs).toArray).toList)=[x] from rfl,if_neg (by simp)]
 have hl1:=(hl.push { cls:=.type "list_iterator", data:=.fields #[.ref l,rawInt 0] }).extBut q1.extBut hne
 have hW:=ZB (n:=xs.length) ((Walks.list (prog:=prog) (w:=w) (A:=A.in1) hh s.heap.objs.size l hne (x::xs).toArray).toS)
 refine zZ (wpAny_holding (wpAny_collect_iter (T:= "list_iterator") (.inr (.inr (.inl rfl))) hW (fun i r st=>st.1.typeIs) ⟨t1,hl1⟩ (fun b hb=>?_) (by simp) (fun s' acc hm hacc=>?_) hn))
 · obtain⟨o,ho,_⟩:=id t1
   obtain⟨o2,ho2,_⟩:=id hl1
   rcases yX.mp hb with e | e
   · rw[e];exact zM ho
   · rw[List.mem_singleton.mp e];exact zM ho2
 have he:acc.toList=xs:=by
   apply b2V
   intro j
   obtain⟨e1,e2⟩:=hacc
   by_cases hj:j < xs.length
   · have h1:=e2 j acc[j] (by simp[e1,hj])
     rw[a9Q,a9Z (by omega)]
     have h2:xs[j]?=some acc[j]:=by simpa using h1
     exact h2.symm
   · rw[a1Z (by rw[a0K];omega),a1Z (by omega)]
 rw[he,if_neg (by simp)]
 have hk:∀b o,s.heap.get? b=some o->s'.heap.get? b=some o:=fun b o e=>hm.heap b o (fun hI=>absurd (zM e) (by rw[List.mem_singleton.mp hI];exact yF _)) (q1.extBut b o (zC (zM e)) (zW _ e))
 have hsz:sizeOk (.seq (xs.take (xs.length - (2 - 1 - 1))).toArray):=by
   show(xs.take (xs.length - (2 - 1 - 1))).toArray.size<=sizeLine
   rw[zJ]
   exact zN (List.length_take_le _ _) (zN (Nat.sub_le _ _) hn)
 refine zZ (xM (zY ?_) hsz)
 have hq:=hQ s'.heap s'.toks hk
 rw[Moved.eq_with hm]
 have e1:xs.take (xs.length - (2 - 1 - 1))=xs:=a8Z (by simp)
 have e2:xs.drop (xs.length - (2 - 1 - 1))=[]:=List.drop_of_length_le (by simp)
 rw[e1,e2]
 exact hq
end
section
variable {X:Cx}{pos:Pos}
def mW (K:Frg) (t:TGs):TG:=fun v σ H Q=>∃a x xs,v = .ref a/\SqL K H a (x::xs)/\∀p,H p=none->t [x,.ref p] σ (upd H p (.lst xs)) Q
theorem qY {es es':List Expr}{k:Nat}{t:TGs}(hc:X.calm=true) (h:PGs X es' t) (he:(assignEach es X.env).map (·.2)=(assignEach es' X.env).map (·.2):=by rfl)
   (hn:(assignEach es X.env).length=2:=by rfl) (hst:(assignEach es X.env).findIdx? (·.1)=some 1:=by rfl):PG X (.Tuple es k pos) (mW X.K t):=by
 intro pins s σ H v u Q I r hw
 obtain⟨a,x,xs,e1,hq,hw⟩:=hw
 subst e1
 cases r
 obtain⟨its,rv,pl,hz⟩:=I.list hq
 cases rv with
 | @cons _ y _ ys r1 r2=>
 rw[arm_assign_Tuple]
 refine zZ (wpAny_standAt ?_)
 unfold unpack
 rw[hn,hst]
 refine zZ (wpAny_holding (ZC (I.ok.hd hc) pl.isList (by rw[← r2.length];exact zN (b9K _) hz) fun h' k' hx=>?_))
 have I1:Inv X pins σ H { s with heap:=h',toks:=k' }:=I.kept (t':=k') fun b o e=>hx b o e
 have hno:H h'.objs.size=none:=I1.hok.fresh (zR _)
 have I2:=I1.laid (t':=k') (o:=.lst xs) (fun b o e=>zW _ e) (zR _) ⟨zN (b9K _) hz,ys,0,r2,yZ _ rfl⟩
 rw[he]
 exact h pins _ σ _ [x,.ref h'.objs.size] _ Q I2 (.cons r1 (.cons rfl .nil)) (hw _ hno)
end
end L2
namespace DL
open PySem PySem.Spec L2
theorem sX {X:Cx}{K:Frg}{pos:Pos}{es es':List Expr}{k:Nat}{t:TGs}(hK:X.K=K) (hc:X.calm=true) (h:PGs X es' t) (he:(assignEach es X.env).map (·.2)=(assignEach es' X.env).map (·.2):=by rfl)
   (hn:(assignEach es X.env).length=2:=by rfl) (hst:(assignEach es X.env).findIdx? (·.1)=some 1:=by rfl):PG X (.Tuple es k pos) (mW K t):=hK▸qY hc h he hn hst
section
variable {K:Frg}{M:Own}{ρ:List (Option DS)}{P:List (Option DS)->Own->Prop}
theorem eY {g:TGs}{d:PyData}{ds:List PyData}(h:DGs K g [d,.list ds] ρ M P):DG K (mW K g) (.list (d::ds)) ρ M P:=fun σ H v QQ R dv k=>by
 unfold DV at dv
 obtain⟨a,vs,rfl,hl,hd⟩:=dv
 unfold DVs at hd
 obtain⟨x,xs,rfl,h1,h2⟩:=hd
 refine⟨a,x,xs,rfl,hl.sq,fun p hp=>?_⟩
 have g':Grow K M.W M.W H (upd H p (.lst xs)):=AU _ hp
 refine h σ _ _ QQ (R.step (R.own.new hp) ⟨g'⟩) ?_ fun ρ1 M1 σ1 H1 R1 st1 q=>k ρ1 M1 σ1 H1 R1 (Step.trans ⟨g'⟩ st1) q
 refine DVs.cons (h1.grow g') (DVs.cons ?_ DVs.nil)
 unfold DV
 exact⟨p,_,rfl,.inl ⟨fun w=>w (R.own.none hp),.inl AH⟩,h2.grow g'⟩
end
end DL
namespace L2
open PySem PySem.Spec PyProof.Rows
def eZ:List V->Hp->VK->Prop:=fun xs H Q=>DL.kJ xs H Q∨∃x:Str,xs=[.str x]/\Q (.str x) H
theorem iK {X:Cx}:BQ X (.type "str") eZ:=by
 intro pins s σ H xs us Q I r h
 rcases h with h | ⟨x,rfl,q⟩
 · exact ME pins s σ H xs us Q I r h
 · obtain⟨u,rfl,t,rfl⟩:=D0 r
   exact P.str_of_str ⟨.str x,H,I,⟨_,rfl⟩,q⟩
end L2
namespace DL
open PySem PySem.Spec L2
theorem A0n {X:Cx}{K:Frg}(_:X.K=K):BQ X (.type "str") eZ:=iK
theorem qZ {K:Frg}{M:Own}{Q:DS->Own->Prop}{i:Int}(hz:i.natAbs.log2 < 1920) (q:Q (.d (.str (toString i))) M):DR K eZ [.d (.int i)] M Q:=fun H vs QQ oa s k=>.inl (QN hz q H vs QQ oa s k)
theorem r6 {K:Frg}{M:Own}{Q:DS->Own->Prop}{x:Str}(q:Q (.d (.str x)) M):DR K eZ [.d (.str x)] M Q:=fun H vs QQ oa s k=>by
 obtain⟨v,r,rfl,h1,h2⟩:=s
 cases h2
 rw[AO h1]
 exact .inr ⟨x,rfl,k _ H (.d (.str x)) M oa BW Step.refl q⟩
end DL
namespace L2
open PySem PySem.Spec PyProof.Rows
section
variable {prog:Program}{w:World}{A:Around}{E:Value->Shared->Prop}{s:Shared}
theorem r8 {i t:Addr}{k:Nat}{items:Array Value}{y:Value}(hne:t≠i) (hx:items[k]?=some y):NxI prog w A i (fun h=>h.IsListIter i t k/\h.IsList t items) (fun h=>h.IsListIter i t (k+1)/\h.IsList t items) (fun v=>v=y):=fun s Q E hS hQ=>by
 obtain⟨hit,ht⟩:=hS
 exact wpAny_nextOf_list_item hit ht hx fun h' a b=>hQ h' _ y rfl ⟨a,ht.extBut b.extBut hne⟩ b
theorem mX {t:Addr}{items:Array Value}:RE (.ref t) { cls:=.type "list_iterator", data:=.fields #[.ref t,.int 0 0] } (fun h=>h.IsList t items):=fun prog w A E s Q ht hQ=>wpAny_pyIter_list ht hQ
end
section
variable {X:Cx}{pins:List (Addr×Obj)}{σ:St}{H:Hp}{s:Shared}
theorem x6 {a z:Addr}{xs:List V}(I:Inv X pins σ H s) (hf:LN X pins H z) (h:SqL X.K H a xs):a≠z:=by
 rintro rfl
 rcases h with h | ⟨o,its,n,hk,_⟩
 · rcases h with h | ⟨o',h⟩ <;> rw[hf.1] at h <;> cases h
 · have e:=I.ok.mod.kin a o hk
   rcases hf.2.2.2.1 with z | z
   · exact I.ok.noex a o e z
   · exact absurd (zP (zM e) (zN I.ok.bsz z)) (yF _)
end
def A0o (K:Frg) (x:Str) (l2:Addr):It:=
 ⟨fun i H=>∃ys,SqL K H l2 ys/\i < x.cps.size/\i < ys.length,
  fun i H v H'=>∃p c b,H p=none/\v = .ref p/\H'=upd H p (.tup [.str ⟨#[c]⟩,b])/\x.cps[i]?=some c/\∀ys,SqL K H l2 ys->ys[i]?=some b,
  fun i H=>x.cps.size<=i⟩
theorem cC {P:Program}{w:World}{K:Frg}{elts:List Expr}{kk:Nat}{tpos:Pos}(z TI TO i1 i2:Addr) (x:Str) (t:Tok) (l2:Addr) (d1:TI≠z) (d2:TO≠z) (d3:i1≠z) (d4:i2≠z) (d5:TI≠TO) (d6:TI≠i1) (d7:TI≠i2) (d8:TO≠i1) (d9:TO≠i2) (d10:i1≠i2) :
   Turn P w K (.Tuple elts kk tpos) (A0o K x l2) [z,TI,TO,i1,i2] z (fun i h=>IsZip h z TI TO .none/\IsPair h TI (.ref i1) (.ref i2)/\(∃a b,IsPair h TO a b)/\h.IsStrIter i1 "str_ascii_iterator" x t i/\h.IsListIter i2 l2 i) where
 mem:=by simp
 obj:=fun i h ⟨a1,a2,⟨x,y,a3⟩,a4,a5⟩ b hb=>by
   simp only[yX,xX,or_false] at hb
   rcases hb with rfl | rfl | rfl | rfl | rfl
   · exact⟨_,a1,fun v q=>by cases q⟩
   · exact⟨_,a2,fun v q=>by cases q⟩
   · exact⟨_,a3,fun v q=>by cases q⟩
   · obtain⟨o,e,c,d⟩:=a4;exact⟨o,e,fun v q=>by rw[d] at q;cases q⟩
   · obtain⟨o,e,c,d⟩:=a5;exact⟨o,e,fun v q=>by rw[d] at q;cases q⟩
 keep:=fun i h h' ⟨a1,a2,⟨x,y,a3⟩,⟨o4,e4,r4⟩,a5⟩ k=>⟨k z (by simp) _ a1,k TI (by simp) _ a2,⟨x,y,k TO (by simp) _ a3⟩,⟨o4,k i1 (by simp) o4 e4,r4⟩,a5.at fun o e=>k i2 (by simp) o e⟩
 item:=by
   intro X hP hw hK hc i pins s σ H E I hf ⟨a1,a2,⟨x0,y0,a3⟩,a4,a5⟩ hg
   subst hP hw hK
   obtain⟨ys,hy,lx,ly⟩:=hg
   obtain⟨its2,ry,py,_⟩:=I.list hy
   obtain⟨v,hv,rv⟩:=ry.get (zV ly)
   have hx:x.cps[i]?=some x.cps[i]:=a9Z lx
   have py':s.heap.IsList l2 its2.toArray:=py.isList
   have ne2:∀c∈[z,TI,TO,i1,i2],l2≠c:=fun c hc=>x6 I (hf c hc) hy
   have D:ZAp z TI TO i1 i2 [i1] [i2,l2]:=⟨d2,d3,d4,d8,d9,d10,fun c hc=>by
       have:c=i1:=by simpa using hc
       subst this;exact⟨d3,d8.symm,d10⟩,fun c hc=>by
       rcases yX.mp hc with rfl | hc
       · exact⟨d4,d9.symm,d10.symm⟩
       · have:c=l2:=by simpa using hc
         subst this;exact⟨ne2 z (by simp),ne2 TO (by simp),ne2 i1 (by simp)⟩⟩
   have t1:∀k,FU [i1] (fun h=>h.IsStrIter i1 "str_ascii_iterator" x t k):=fun k h h' ⟨o,e,r⟩ q=>⟨o,q i1 (by simp) o e,r⟩
   have t2:∀k,FU [i2,l2] (fun h=>h.IsListIter i2 l2 k/\h.IsList l2 its2.toArray):=fun k h h' ⟨⟨o,e,r⟩,⟨o',e',r'⟩⟩ q=>⟨⟨o,q i2 (by simp) o e,r⟩,⟨o',q l2 (by simp) o' e',r'⟩⟩
   refine UL (R1:=fun u=>RelV (.str ⟨#[x.cps[i]]⟩) u) (R2:=fun u=>u=v) D (t1 i) (t1 (i+1)) (t2 i) (t2 (i+1)) (fun A=>YK hx) (fun A=>r8 (ne2 i2 (by simp)) (by simpa using hv)) a1 a2 a3 a4 ⟨a5,py'⟩
     (fun h ⟨o,e,_⟩=>zM e) (fun h ⟨⟨o,e,_⟩,_⟩=>zM e) fun h' tk u u2 ru eu2 b1 b2 b3 b4 b5 b6 hk=>?_
   subst eu2
   refine⟨_,rfl,wpAny_letOwnedTupleGo_zip (s:={ s with heap:=h',toks:=tk }) b1 fun h2 c1 sb=>?_⟩
   have lt:∀{c o},s.heap.get? c=some o->s.heap.objs.size≠c:=fun e=>a5X (zM e)
   have keep:∀b o,b∉[z,TO,i1,i2]->s.heap.get? b=some o->h2.get? b=some o:=fun b o hb e=>by
     simp only[yX,xX,or_false,not_or] at hb
     exact sb.extBut b o hb.1 (hk b o hb.1 hb.2.1 hb.2.2.1 hb.2.2.2 e)
   have sub:∀b∈[z,TO,i1,i2],b∈[z,TI,TO,i1,i2]:=fun b hb=>by
     simp only[yX,xX,or_false] at hb ⊢
     rcases hb with h | h | h | h <;> simp[h]
   have hTz:s.heap.objs.size≠z:=lt a1
   have I1:Inv X pins σ (upd H s.heap.objs.size (.tup [.str ⟨#[x.cps[i]]⟩,ys[i]])) { s with heap:=h2,toks:=tk }:=I.turnedT (t':=tk) (ch:=[z,TO,i1,i2]) keep (fun b hb=>(hf b (sub b hb)).1)
     (fun b hb=>let q:=hf b (sub b hb);⟨q.2.2.2.1,q.2.1,q.2.2.2.2.1,q.2.2.2.2.2⟩) (zR _)
     ⟨by show 2<=sizeLine;decide,[u,u2],.cons ru (.cons rv .nil),⟨_,sb.extBut _ _ hTz b5,rfl,_,rfl⟩⟩
   refine⟨.ref s.heap.objs.size,_,I1,rfl,⟨s.heap.objs.size,x.cps[i],ys[i],I.hok.fresh (zR _),rfl,rfl,hx,fun ys' hy'=>?_⟩,
     ⟨c1,keep _ _ ?_ a2,⟨_,_,sb.extBut _ _ d2 b2⟩,b3.extBut sb.extBut d3,b4.1.extBut sb.extBut d4⟩,fun b hb=>?_⟩
   · rw[I.list_inj hy' hy]
     exact zV ly
   · simp[d1,d5,d6,d7]
   · have hlt:s.heap.objs.size≠b:=by
       simp only[yX,xX,or_false] at hb
       rcases hb with rfl | rfl | rfl | rfl | rfl
       · exact lt a1
       · exact lt a2
       · exact lt a3
       · obtain⟨o,e,_⟩:=a4;exact lt e
       · obtain⟨o,e,_⟩:=a5;exact lt e
     rw[AN (b5Q hlt)]
     exact(hf b hb).1
 done:=by
   intro X hP hw hK hc i pins s σ H E I hf ⟨a1,a2,⟨x0,y0,a3⟩,a4,a5⟩ hg
   subst hP hw hK
   have hx:x.cps[i]?=none:=b6Z hg
   have D:ZAp z TI TO i1 i2 [i1] []:=⟨d2,d3,d4,d8,d9,d10,fun c hc=>by
       have:c=i1:=by simpa using hc
       subst this;exact⟨d3,d8.symm,d10⟩,fun c hc=>nomatch hc⟩
   have t1:FU [i1] (fun h=>h.IsStrIter i1 "str_ascii_iterator" x t i):=fun h h' ⟨o,e,r⟩ q=>⟨o,q i1 (by simp) o e,r⟩
   have sub:∀b∈[z,TO,i1,i2],b∈[z,TI,TO,i1,i2]:=fun b hb=>by
     simp only[yX,xX,or_false] at hb ⊢
     rcases hb with h | h | h | h <;> simp[h]
   refine UM (I.ok.hd hc) a1 (fun Q' E' hE' A' hA'=>UK D t1 (UN hA' hx) a1 a2 a3 a4 hE') fun h' tk hk=>⟨rfl,I.turnedL (t':=tk) (ch:=[z,TO,i1,i2]) (fun b o hb e=>?_) (fun b hb=>(hf b (sub b hb)).1) fun b hb=>let q:=hf b (sub b hb);⟨q.2.2.2.1,q.2.1,q.2.2.2.2.1,q.2.2.2.2.2⟩⟩
   simp only[yX,xX,or_false,not_or] at hb
   exact hk b o hb.1 hb.2.1 hb.2.2.1 hb.2.2.2 e
 self:=fun _ _ _ _ _ st h=>wpAny_pyIter_zip st.1 h
section
variable {X:Cx}{K:Frg}
def cD (K:Frg) (ta:TA):TI:=fun σ H R=>ta σ H fun vs H1=>False∨∃x b,vs=[.str x,.ref b]/\x.cps.all (· < 128)=true/\(∃ys,SqL K H1 b ys)/\R (A0o K x b) H1
theorem mY {a b:Expr}{ta:TA}{p pos:Pos}{elts:List Expr}{kk:Nat}{tpos:Pos}(hg:Gl X "zip") (hm:X.mg "zip"=none) (ha:PA X [a,b] ta) (hs:starEach [a,b] X.env=[(false,eval a X.env),(false,eval b X.env)]:=by rfl) (hs2:starEach [b] X.env=[(false,eval b X.env)]:=by rfl) :
   PI X (.Tuple elts kk tpos) (.Call (.Name "zip" p) [a,b] [] pos) (cD X.K ta):=by
 intro pins s σ H R I h
 refine Call_ (GL I hg hm boot_zip (xH (thn (ha pos pins s σ H _ I h) fun us s1 ⟨vs,H1,I1,r1,q1⟩=>?_) (by rw[hs,hs2]) (by rw[hs2];rfl)))
 have ne:∀(m n:Nat),m≠n->s1.heap.objs.size+m≠s1.heap.objs.size+n:=fun m n h e=>h (Nat.add_left_cancel e)
 have fp:∀b∈[s1.heap.objs.size+4,s1.heap.objs.size+2,s1.heap.objs.size+3,s1.heap.objs.size,s1.heap.objs.size+1],LN X pins H1 b:=fun b hb=>by
   have hle:s1.heap.objs.size<=b:=by
     simp only[yX,xX,or_false] at hb
     rcases hb with rfl | rfl | rfl | rfl | rfl
     · exact a2Q _ _
     · exact a2Q _ _
     · exact a2Q _ _
     · exact zR _
     · exact a2Q _ _
   exact I1.fpOk hle (I1.hok.fresh hle)
 rcases q1 with q1 | ⟨x,l2,e,hx,⟨ys,hy⟩,q⟩
 · exact q1.elim
 · subst e
   cases r1 with
   | cons r rr=>
     cases rr with
     | cons r' rr=>
       cases rr;cases r'
       obtain⟨t,rfl⟩:=r
       obtain⟨its2,ry,py,_⟩:=I1.list hy
       refine UP (UO (t:=t) hx) (mX (t:=l2) (items:=its2.toArray)) (fun h o q=>q.push o) rfl rfl trivial (show s1.heap.IsList l2 its2.toArray from py.isList) fun h' b1 b2 b3 b4 b5 hk=>?_
       refine wpAny_pyIter_zip (s:={ s1 with heap:=h' }) b1 ?_
       exact⟨s1.heap.objs.size+4,[s1.heap.objs.size+4,s1.heap.objs.size+2,s1.heap.objs.size+3,s1.heap.objs.size,s1.heap.objs.size+1],_,_,H1,rfl,I1.kept (t':=s1.toks) hk,
         cC (s1.heap.objs.size+4) (s1.heap.objs.size+2) (s1.heap.objs.size+3) s1.heap.objs.size (s1.heap.objs.size+1) x t l2 (ne 2 4 (by decide)) (ne 3 4 (by decide)) (ne 0 4 (by decide)) (ne 1 4 (by decide)) (ne 2 3 (by decide)) (ne 2 0 (by decide)) (ne 2 1 (by decide)) (ne 3 0 (by decide)) (ne 3 1 (by decide)) (ne 0 1 (by decide)),
         ⟨b1,b2,⟨_,_,b3⟩,⟨_,b4,rfl,rfl⟩,⟨_,b5,rfl,rfl⟩⟩,fp,q⟩
theorem x8 {a b:Expr}{ta:TA}{p pos:Pos}{elts:List Expr}{kk:Nat}{tpos:Pos}(h:X.K=K) (hg:Gl X "zip") (hm:X.mg "zip"=none) (ha:PA X [a,b] ta) (hs:starEach [a,b] X.env=[(false,eval a X.env),(false,eval b X.env)]:=by rfl) (hs2:starEach [b] X.env=[(false,eval b X.env)]:=by rfl) :
   PI X (.Tuple elts kk tpos) (.Call (.Name "zip" p) [a,b] [] pos) (cD K ta):=h▸mY hg hm ha hs hs2
end
end L2
namespace DL
open PySem PySem.Spec L2
section
variable {K:Frg}{ρ:List (Option DS)}{M:Own}{QI:List PyData->Own->Prop}
theorem mZ {ta:TA}(h:DA K ta ρ M fun xs M1=>∃z bs,xs=[.d (.str z),.d (.list bs)]/\z.cps.all (· < 128)=true/\z.cps.size<=bs.length/\QI (F6 (AK z) bs) M1):DI K (cD K ta) ρ M QI:=fun σ H R Rl k=>
 h σ H _ Rl fun vs H1 xs M1 o1 s1 t1 ⟨z,bs,e,hz,hl0,q⟩=>by
   subst e
   obtain⟨v,r,rfl,h1,v2,r2,rfl,h2,h3⟩:=s1
   cases h3
   rw[AO h1]
   unfold SI DV at h2
   obtain⟨b,vb,rfl,hl2,hd2⟩:=h2
   have hlen:(F6 (AK z) bs).length=z.cps.size:=by unfold F6;rw[zX,b2Z,UD];omega
   refine .inr ⟨z,b,rfl,hz,⟨vb,hl2.sq⟩,k _ (F6 (AK z) bs) H1 M1 o1 t1 ⟨fun i H' M' hi oa st=>?_,fun H' M' oa st=>?_,fun i H' M' x H2 oa st hi y=>?_⟩ q⟩
   · rw[hlen] at hi
     exact⟨vb,(hl2.grow st.grow).sq,hi,by rw[hd2.length];omega⟩
   · show z.cps.size<=_
     rw[hlen];exact zR _
   · obtain⟨p,c,xb,hp,rfl,rfl,hc,hy⟩:=y
     have e2:=hy vb (hl2.grow st.grow).sq
     obtain⟨db,g1,g2⟩:=hd2.get e2
     have gg:Grow K M'.W M'.W H' (upd H' p (.tup [.str ⟨#[c]⟩,xb])):=AU _ hp
     refine⟨oa.new hp,⟨gg⟩,.tuple [.str ⟨#[c]⟩,db],?_,?_⟩
     · unfold F6
       rw[zF]
       have hs:(AK z)[i]?=some (.str ⟨#[c]⟩):=by unfold AK;rw[zF];simp[hc]
       have:((AK z).zip bs)[i]?=some (.str ⟨#[c]⟩,db):=by rw[a4W];exact⟨hs,g1⟩
       rw[this];rfl
     · unfold DV
       exact⟨p,_,rfl,.inl ⟨fun w=>w (oa.none hp),.inl AH⟩,DVs.cons (by unfold DV;rfl) (DVs.cons ((g2.grow st.grow).grow gg) DVs.nil)⟩
end
end DL
namespace DL
open PySem PySem.Spec L2 PySem.Builtin.Str PySem.StrLaws
def UZ (c:Nat):List (List Nat)->List Nat
 | []=>[]
 | [p]=>p
 | p::q::r=>p++c::UZ c (q::r)
theorem V0 {x:Str}{d:Nat}:∀(ps:List (List Nat)) (pre:List Nat) (cuts:List Nat) (f:Nat),ps≠[]->x.cps.toList=pre++UZ d ps->(∀p∈ps,d∉p) ->
   ChainG x ⟨#[d]⟩ x.length pre.length cuts f->(∀k,f<=k->¬At x ⟨#[d]⟩ x.length k)->(partsFrom x 1 pre.length cuts).map (·.cps.toList)=ps
 | [],_,_,_,h,_,_,_,_=>absurd rfl h
 | [p],pre,[],f,_,hx,hp,hc,hn=>by
   show [(strSub x pre.length x.length).cps.toList]=[p]
   rw[CP,hx]
   have hl:x.length=(pre++p).length:=by show x.cps.size=_;rw[← a0K,hx];rfl
   show [((pre++p).drop pre.length).take (x.length - pre.length)]=[p]
   rw[b6J,hl,yY,a4Z,a2K]
 | [p],pre,c::r,f,_,hx,hp,hc,hn=>by
   obtain⟨h1,h2,_⟩:=hc
   have:=(subAt_one x d c).mp h2
   rw[hx] at this
   rw[yP h1] at this
   exact absurd (yN this) (hp p (by simp))
 | p::q::r,pre,cuts,f,_,hx,hp,hc,hn=>by
   have hx':x.cps.toList=pre++(p++(d::UZ d (q::r))):=by rw[hx];rfl
   have hA:At x ⟨#[d]⟩ x.length (pre.length+p.length):=by
     refine(subAt_one x d _).mpr ?_
     rw[hx',yP (by omega),yP (by omega)]
     simp
   cases cuts with
   | nil=>
     have e:f=pre.length:=hc
     exact absurd hA (hn _ (by omega))
   | cons c cs=>
     obtain⟨h1,h2,h3,h4⟩:=hc
     have hle:c<=pre.length+p.length:=a7X fun h=>h3 _ (a2Q _ _) h hA
     have hce:c=pre.length+p.length:=by
       refine Nat.le_antisymm hle (a7X fun hlt=>?_)
       have:=(subAt_one x d c).mp h2
       rw[hx',yP h1,yQ (by omega)] at this
       exact hp p (by simp) (yN this)
     subst hce
     show(strSub x pre.length (pre.length+p.length)).cps.toList::(partsFrom x 1 (pre.length+p.length+1) cs).map (·.cps.toList)=_
     have e2:pre.length+p.length+1=(pre++p++[d]).length:=by simp only[yY,yR,a8X]
     rw[e2,V0 (q::r) (pre++p++[d]) cs f (by simp) (by rw[hx'];simp[a8Q]) (fun z hz=>hp z (yV _ hz)) (e2▸h4) hn,CP,hx',b6J,a4Z,List.take_left]
theorem RY (c:Nat):∀ps:List Str,(b4Z ⟨#[c]⟩ ps).cps.toList=UZ c (ps.map (·.cps.toList))
 | []=>rfl
 | [p]=>rfl
 | p::q::r=>by
   show(p++⟨#[c]⟩++b4Z ⟨#[c]⟩ (q::r)).cps.toList=p.cps.toList++c::UZ c ((q::r).map (·.cps.toList))
   rw[AY,AY,RY c (q::r),a8Q];rfl
theorem V1 {c:Nat}(hc128:c < 128) {ps:List Str}(hne:ps≠[]) (hp:∀p∈ps,c∉p.cps.toList):a3V (a7K ⟨#[c]⟩ ps) ⟨#[c]⟩=ps:=by
 have hj:a7K ⟨#[c]⟩ ps=b4Z ⟨#[c]⟩ ps:=glued_eq_join _ _
 rw[hj]
 generalize hx:b4Z ⟨#[c]⟩ ps=x
 have hxl:x.cps.toList=[]++UZ c (ps.map (·.cps.toList)):=by rw[← hx,RY];rfl
 obtain⟨f,hG,hn⟩:=occ_tight x ⟨#[c]⟩ (by show 1<=1;decide)
 have key:=V0 (x:=x) (ps.map (·.cps.toList)) [] _ f (by simpa using hne) hxl (fun p hp'=>by
   obtain⟨q,hq,rfl⟩:=zL.mp hp'
   exact hp q hq) hG hn
 have fin:partsFrom x 1 0 (occurrences x ⟨#[c]⟩ 0 x.length (x.length+1))=ps:=by
   have:=key
   exact(List.map_inj_right (fun _ _ h=>C7 h)).mp this
 have whole:occurrences x ⟨#[c]⟩ 0 x.length (x.length+1)=[]->[x]=ps:=fun e0=>by
   rw[e0] at fin
   rw[← fin]
   show [x]=[strSub x 0 x.length]
   have:x=strSub x 0 x.length:=C7 (by
     rw[CP,b1Z,Nat.sub_zero,show x.length=x.cps.toList.length by show x.cps.size=_;simp,a2K])
   rw[← this]
 unfold a3V
 split
 · rename_i hc
   refine whole ?_
   have hk:a3W ⟨#[c]⟩=1:=by
     unfold a3W
     rw[if_pos]
     simp;omega
   have hs:1<=a3W x:=by unfold a3W;split;exact zR _;split <;> decide
   have hlen:x.length < 1:=by
     rcases Bool.or_eq_true_iff.mp hc with h | h
     · exact of_decide_eq_true h
     · have:=of_decide_eq_true h;omega
   cases hcut:occurrences x ⟨#[c]⟩ 0 x.length (x.length+1) with
   | nil=>rfl
   | cons c' r=>
     rw[hcut] at hG
     have h2:c'+1<=x.length:=hG.2.1.1
     omega
 · split
   · rename_i he
     exact whole (List.isEmpty_iff.mp he)
   · rw[partsBetween_eq];exact fin
end DL
namespace DL
open PySem PySem.Spec L2 PySem.Builtin.Str PySem.StrLaws
def JP (s:List Nat):List (List Nat)->List Nat
 | []=>[]
 | [p]=>p
 | p::q::r=>p++s++JP s (q::r)
theorem join_list (s:Str):∀ps:List Str,(b4Z s ps).cps.toList=JP s.cps.toList (ps.map (·.cps.toList))
 | []=>rfl
 | [p]=>rfl
 | p::q::r=>by
   show(p++s++b4Z s (q::r)).cps.toList=p.cps.toList++s.cps.toList++JP s.cps.toList ((q::r).map (·.cps.toList))
   rw[AY,AY,join_list s (q::r)]
theorem RZ (s:Str) (ps:List Str):(a7K s ps).cps.toList=JP s.cps.toList (ps.map (·.cps.toList)):=by
 rw[show a7K s ps=b4Z s ps from glued_eq_join _ _];exact join_list s ps
theorem N0 {s:List Nat}{c:Nat}:∀{ps:List (List Nat)},c∈JP s ps->c∈s∨∃p∈ps,c∈p
 | [],h=>by simp[JP] at h
 | [p],h=>.inr ⟨p,by simp,h⟩
 | p::q::r,h=>by
   rcases yW.mp h with h | h
   · rcases yW.mp h with h | h
     · exact .inr ⟨p,by simp,h⟩
     · exact .inl h
   · rcases N0 h with h | ⟨p',hp,h⟩
     · exact .inl h
     · exact .inr ⟨p',yV _ hp,h⟩
theorem N1 {s:List Nat}{k:Nat}(hs:s.length<=3):∀{ps:List (List Nat)},(∀p∈ps,p.length<=k)->(JP s ps).length<=ps.length*(k+3)
 | [],h=>by simp[JP]
 | [p],h=>by
   have:=h p (by simp)
   show p.length<=1*(k+3);omega
 | p::q::r,h=>by
   have h1:=h p (by simp)
   have h2:=N1 hs (ps:=q::r) (k:=k) fun p' hp=>h p' (yV _ hp)
   show(p++s++JP s (q::r)).length<=_
   rw[yY,yY,yR,Nat.succ_mul]
   omega
end DL
namespace DL
open PySem PySem.Spec L2 PySem.Builtin.Str PySem.StrLaws
def EX:PyData->PyData->PyData
 | .str s,p=>if s == "n" then p else rwD p
 | _,p=>rwD p
def S0 (f:Str) (ps:List Str):List PyData:=((AK f).zip (ps.map .str)).map fun q=>EX q.1 q.2
def rdL:List Str->Option PyData
 | w::ps=>match F0.lookup w with
   | some f=>if ps.length=f.cps.size then (if AX (.str w::S0 f ps) then some (.tuple (.str w::S0 f ps)) else none) else none
   | none=>none
 | []=>none
def rdD:PyData->Option PyData | .str x=>rdL (a3V x (a0Q " ")) | _=>none
def r9:Option PyData->PyData | some d=>d | none=>.none
def BU:PyData->Str | .str s=>s | .int n=>AI n | _=>Str.empty
def Deed.list:Deed->List PyData:=fun D=>.str D.word::.str D.fst::D.rest
def fA:PyData->PyData | .tuple ds=>.str (a7K (a0Q " ") (ds.map BU)) | d=>d
def Deed.fit:Deed->Prop | .put _ _ k=>-1000000000000<=k/\k<=1000000000000 | .count _ k=>-1000000000000<=k/\k<=1000000000000 | .split _ _ _ k=>-1000000000000<=k/\k<=1000000000000 | _=>True
def CY:FSp:=fn1 (fun d=>∃D:Deed,d=D.d/\D.real/\D.fit) fA
def dS (D:Deed):Str:=a7K (a0Q " ") (D.list.map BU)
theorem WH (D:Deed):fA D.d = .str (dS D):=by rw[D.d_eq];rfl
def cF (d:PyData):Prop:=(∃s:Str,d = .str s/\s.length<=8/\∀c∈s.cps.toList,CW c=true)∨∃n:Int,d = .int n/\big n
theorem ZD (D:Deed):D.word.length<=8/\∀c∈D.word.cps.toList,CW c=true:=by cases D <;> (simp only[Deed.word];decide +kernel)
theorem IG {n:Int}(h : -1000000000000<=n/\n<=1000000000000):big n:=by unfold big;omega
theorem IH {n:Int}(h:0<=n/\n<=999):big n:=by unfold big;omega
theorem KO {x:Str}(h:AG x):cF (.str x):=.inl ⟨x,rfl,h.2.1,h.2.2⟩
theorem JQ {D:Deed}(h:D.real) (hf:D.fit):∀d∈D.list,cF d:=by
 obtain⟨h1,h2,h3⟩:=h
 intro d hd
 rcases yX.mp hd with rfl | hd
 · exact .inl ⟨_,rfl,(ZD D).1,(ZD D).2⟩
 rcases yX.mp hd with rfl | hd
 · exact KO (Deed.fst_ok h1)
 cases D with
 | put x p k=>
   rcases yX.mp hd with rfl | hd
   · exact .inr ⟨p,rfl,IH h3⟩
   · rw[List.mem_singleton.mp hd];exact .inr ⟨k,rfl,IG hf⟩
 | take x=>simp[Deed.rest] at hd
 | move x p=>rw[List.mem_singleton.mp hd];exact .inr ⟨p,rfl,IH h3⟩
 | count x k=>rw[List.mem_singleton.mp hd];exact .inr ⟨k,rfl,IG hf⟩
 | name x y=>rw[List.mem_singleton.mp hd];exact KO (h1 y (by simp[Deed.names]))
 | split x y p k=>
   rcases yX.mp hd with rfl | hd
   · exact KO (h1 y (by simp[Deed.names]))
   rcases yX.mp hd with rfl | hd
   · exact .inr ⟨p,rfl,IH h3⟩
   · rw[List.mem_singleton.mp hd];exact .inr ⟨k,rfl,IG hf⟩
 | join x y=>rw[List.mem_singleton.mp hd];exact KO (h1 y (by simp[Deed.names]))
theorem S3 {d:PyData}(h:cF d):(BU d).cps.toList.length<=19/\(∀c∈(BU d).cps.toList,c < 128)/\32∉(BU d).cps.toList:=by
 rcases h with ⟨s,rfl,h1,h2⟩ | ⟨n,rfl,hb⟩
 · refine⟨?_,fun c hc=>aW (h2 c hc),fun hc=>?_⟩
   · have:s.cps.toList.length<=8:=by rw[a0K];exact h1
     exact zN this (by decide)
   · have:=h2 32 hc
     exact absurd this (by decide)
 · obtain⟨c1,c2⟩:=B1 hb
   refine⟨by show(AI n).cps.toList.length<=19;rw[a0K];exact c2,fun c hc=>?_,fun hc=>?_⟩
   · rcases c1 c hc with rfl | h
     · decide
     · omega
   · have:=c1 32 hc;omega
theorem sY:a0Q " "=⟨#[32]⟩:=by decide +kernel
theorem HE (D:Deed):D.list.length<=5:=by cases D <;> simp[Deed.list,Deed.rest]
theorem WI {α:Type}(f:α->Nat) {k:Nat}:∀(l:List α),(∀a∈l,f a<=k)->(l.map f).sum<=l.length*k
 | [],_=>by simp
 | a::r,h=>by
   have h1:=h a (by simp)
   have h2:=WI f r fun b hb=>h b (yV _ hb)
   rw[zI,c2W,yR,Nat.succ_mul];omega
theorem V2 {D:Deed}(h:D.real) (hf:D.fit):((D.list.map BU).map (·.length)).sum+(D.list.map BU).length*(a0Q " ").length<=16777216:=by
 have h1:=WI (fun s:Str=>s.length) (k:=19) (D.list.map BU) fun s hs=>by
   obtain⟨d,hd,rfl⟩:=zL.mp hs
   have:=(S3 (JQ h hf d hd)).1
   rwa [a0K] at this
 have h2:=HE D
 rw[zX] at h1 ⊢
 rw[show(a0Q " ").length=1 by decide +kernel]
 omega
theorem ZE {D:Deed}(h:D.real) (hf:D.fit):a3V (dS D) (a0Q " ")=D.list.map BU:=by
 unfold dS
 rw[sY]
 exact V1 (by decide) (by simp[Deed.list]) fun p hp=>by
   obtain⟨d,hd,rfl⟩:=zL.mp hp
   exact(S3 (JQ h hf d hd)).2.2
theorem V3 (s:Str):EX (.str ⟨#[110]⟩) (.str s) = .str s:=rfl
theorem fB {n:Int}(hb:big n):EX (.str ⟨#[112]⟩) (.str (AI n)) = .int n:=by
 show wO (rwL (AI n).cps.toList)=_
 rw[rw_dec hb];rfl
theorem fC {n:Int}(hb:big n):EX (.str ⟨#[107]⟩) (.str (AI n)) = .int n:=by
 show wO (rwL (AI n).cps.toList)=_
 rw[rw_dec hb];rfl
theorem S4 {D:Deed}(h:D.real) (hf:D.fit):F0.lookup D.word=some D.form/\(D.list.map BU).tail.length=D.form.cps.size/\S0 D.form (D.list.map BU).tail = .str D.fst::D.rest:=by
 obtain⟨h1,h2,h3⟩:=h
 have g1:AK (a0Q "npk")=[.str ⟨#[110]⟩,.str ⟨#[112]⟩,.str ⟨#[107]⟩]:=by unfold AK;rw[show(a0Q "npk").cps.toList=[110,112,107] by decide +kernel];rfl
 have g2:AK (a0Q "n")=[.str ⟨#[110]⟩]:=by unfold AK;rw[show(a0Q "n").cps.toList=[110] by decide +kernel];rfl
 have g3:AK (a0Q "np")=[.str ⟨#[110]⟩,.str ⟨#[112]⟩]:=by unfold AK;rw[show(a0Q "np").cps.toList=[110,112] by decide +kernel];rfl
 have g4:AK (a0Q "nk")=[.str ⟨#[110]⟩,.str ⟨#[107]⟩]:=by unfold AK;rw[show(a0Q "nk").cps.toList=[110,107] by decide +kernel];rfl
 have g5:AK (a0Q "nn")=[.str ⟨#[110]⟩,.str ⟨#[110]⟩]:=by unfold AK;rw[show(a0Q "nn").cps.toList=[110,110] by decide +kernel];rfl
 have g6:AK (a0Q "nnpk")=[.str ⟨#[110]⟩,.str ⟨#[110]⟩,.str ⟨#[112]⟩,.str ⟨#[107]⟩]:=by unfold AK;rw[show(a0Q "nnpk").cps.toList=[110,110,112,107] by decide +kernel];rfl
 cases D with
 | put x p k=>
   refine⟨rfl,by show 3=(a0Q "npk").cps.size;decide +kernel,?_⟩
   show((AK (a0Q "npk")).zip [.str x,.str (AI p),.str (AI k)]).map (fun q=>EX q.1 q.2)=[.str x,.int p,.int k]
   rw[g1]
   show [EX _ _,EX _ _,EX _ _]=_
   rw[V3,fB (IH h3),fC (IG hf)]
 | take x=>
   refine⟨rfl,by show 1=(a0Q "n").cps.size;decide +kernel,?_⟩
   show((AK (a0Q "n")).zip [.str x]).map (fun q=>EX q.1 q.2)=[.str x]
   rw[g2];rfl
 | move x p=>
   refine⟨rfl,by show 2=(a0Q "np").cps.size;decide +kernel,?_⟩
   show((AK (a0Q "np")).zip [.str x,.str (AI p)]).map (fun q=>EX q.1 q.2)=[.str x,.int p]
   rw[g3]
   show [EX _ _,EX _ _]=_
   rw[V3,fB (IH h3)]
 | count x k=>
   refine⟨rfl,by show 2=(a0Q "nk").cps.size;decide +kernel,?_⟩
   show((AK (a0Q "nk")).zip [.str x,.str (AI k)]).map (fun q=>EX q.1 q.2)=[.str x,.int k]
   rw[g4]
   show [EX _ _,EX _ _]=_
   rw[V3,fC (IG hf)]
 | name x y=>
   refine⟨rfl,by show 2=(a0Q "nn").cps.size;decide +kernel,?_⟩
   show((AK (a0Q "nn")).zip [.str x,.str y]).map (fun q=>EX q.1 q.2)=[.str x,.str y]
   rw[g5];rfl
 | split x y p k=>
   refine⟨rfl,by show 4=(a0Q "nnpk").cps.size;decide +kernel,?_⟩
   show((AK (a0Q "nnpk")).zip [.str x,.str y,.str (AI p),.str (AI k)]).map (fun q=>EX q.1 q.2)=[.str x,.str y,.int p,.int k]
   rw[g6]
   show [EX _ _,EX _ _,EX _ _,EX _ _]=_
   rw[V3,V3,fB (IH h3),fC (IG hf)]
 | join x y=>
   refine⟨rfl,by show 2=(a0Q "nn").cps.size;decide +kernel,?_⟩
   show((AK (a0Q "nn")).zip [.str x,.str y]).map (fun q=>EX q.1 q.2)=[.str x,.str y]
   rw[g5];rfl
theorem n4 {D:Deed}(h:D.real) (hf:D.fit):rdD (.str (dS D))=some D.d:=by
 show rdL (a3V (dS D) (a0Q " "))=_
 rw[ZE h hf]
 obtain⟨e1,e2,e3⟩:=S4 h hf
 show rdL (D.word::(D.list.map BU).tail)=_
 unfold rdL
 dsimp only
 rw[e1]
 dsimp only
 rw[if_pos e2,e3,if_pos (by have:=Q6 h;rw[D.d_eq] at this;exact this),D.d_eq]
end DL
namespace DL
open PySem PySem.Spec L2
section
variable {K:Frg}{M:Own}{Q:DS->Own->Prop}{H:Hp}
theorem OR {W:Addr->Prop}:∀{bs:List Int},DVs K H W (bs.map b7X) (bs.map V.int)
 | []=>DVs.nil
 | b::bs=>DVs.cons (by unfold DV;rfl) OR
end
end DL
namespace DL
open PySem PySem.Spec L2
def FX:List Str->List Str->List Deed->Prop
 | _,_,[]=>True
 | so,sp,D::r=>BA so D=none/\(∀n,D.made=some n->sp.head?=some n)/\D.real/\FX (B6 so D) (C6 sp D) r
def OS:List Str->List Str->List Deed->List Str×List Str
 | so,sp,[]=>(so,sp)
 | so,sp,D::r=>OS (B6 so D) (C6 sp D) r
theorem LV:∀{Ds:List Deed}{so sp so' sp':List Str}{D:Deed},FX so sp Ds->OS so sp Ds=(so',sp')->BA so' D=none->(∀n,D.made=some n->sp'.head?=some n)->D.real->FX so sp (Ds++[D])/\OS so sp (Ds++[D])=(B6 so' D,C6 sp' D)
 | [],so,sp,so',sp',D,_,e,h1,h2,h3=>by
   cases e
   exact⟨⟨h1,h2,h3,trivial⟩,rfl⟩
 | F::r,so,sp,so',sp',D,h,e,h1,h2,h3=>by
   obtain⟨g1,g2⟩:=LV (Ds:=r) h.2.2.2 e h1 h2 h3
   exact⟨⟨h.1,h.2.1,h.2.2.1,g1⟩,g2⟩
def Deed.must (D:Deed):List Str:=D.names.filter fun n=>decide (¬D.made=some n)
def mkN (Ds:List Deed) (j:Nat):Option Str:=(Ds[j]?).bind Deed.made
def OT (Ds:List Deed) (k:Nat):List Str:=match Ds[k]? with | some D=>D.must | none=>[]
structure FreshD (Ds:List Deed):Prop where
 one:∀i j x,mkN Ds i=some x->mkN Ds j=some x->i=j
 bef:∀j k x,mkN Ds j=some x->x∈OT Ds k->j < k
theorem KP (sp:List Str) (D:Deed):(C6 sp D).Sublist sp:=by
 unfold C6
 split
 · exact List.drop_sublist _ _
 · exact a5Z _
theorem O6:∀(Ds:List Deed) (so sp:List Str),FX so sp Ds->(so++sp).Nodup->(∀j x,mkN Ds j=some x->x∈sp)/\FreshD Ds
 | [],so,sp,_,_=>⟨fun j x h=>by simp[mkN] at h,fun i j x h=>by simp[mkN] at h,fun j k x h=>by simp[mkN] at h⟩
 | D::r,so,sp,h,nd=>by
   obtain⟨h1,h2,_,h3⟩:=h
   have nd2:(B6 so D++C6 sp D).Nodup:=nd.sublist (HC h2)
   obtain⟨i1,i2⟩:=O6 r _ _ h3 nd2
   have sub:=(KP sp D).subset
   have m0:∀x,mkN (D::r) 0=some x->D.made=some x:=fun x h=>h
   have in0:∀x,D.made=some x->x∈sp:=fun x e=>b6W (h2 x e)
   have all:∀j x,mkN (D::r) j=some x->x∈sp:=fun j x e=>by
     cases j with
     | zero=>exact in0 x e
     | succ j=>exact sub (i1 j x e)
   have dis:∀x,x∈so->x∈sp->False:=fun x a b=>(List.nodup_append.mp nd).2.2 x a x b rfl
   refine⟨all,fun i j x e1 e2=>?_,fun j k x e1 e2=>?_⟩
   · have two:∀j,D.made=some x->mkN r j=some x->False:=fun j a b=>by
       have q1:=i1 j x b
       have q2:=h2 x a
       unfold C6 at q1
       rw[a] at q1
       dsimp only at q1
       have nsp:sp.Nodup:=(List.nodup_append.mp nd).2.1
       cases sp with
       | nil=>simp at q2
       | cons y ys=>
         have:y=x:=by simpa using q2
         subst this
         exact(xV.mp nsp).1 (by simpa using q1)
     cases i with
     | zero=>
       cases j with
       | zero=>rfl
       | succ j=>exact(two j e1 e2).elim
     | succ i=>
       cases j with
       | zero=>exact(two i e2 e1).elim
       | succ j=>rw[i2.one i j x e1 e2]
   · cases k with
     | zero=>
       have hm:x∈D.must:=e2
       obtain⟨a,b⟩:=yL.mp hm
       have b':¬D.made=some x:=of_decide_eq_true b
       exact(dis x (JL h1 a b') (all j x e1)).elim
     | succ k=>
       cases j with
       | zero=>exact Nat.succ_pos _
       | succ j=>exact Nat.succ_lt_succ (i2.bef j k x e1 e2)
def mkL (Ds:List Deed) (o:Nat):List (Str×PyData):=match Ds with
 | []=>[]
 | D::r=>(match D.made with | some x=>[(x,b7X (o:Nat))] | none=>[])++mkL r (o+1)
theorem fD:∀(Ds:List Deed) (o:Nat),(∀i j x,mkN Ds i=some x->mkN Ds j=some x->i=j)->∀x,CL (mkL Ds o) x=none/\(∀j,¬mkN Ds j=some x)∨∃j,mkN Ds j=some x/\CL (mkL Ds o) x=some (.int ((o+j:Nat):Int))
 | [],o,_,x=>.inl ⟨rfl,fun j=>by simp[mkN]⟩
 | D::r,o,h,x=>by
   have ih:=fD r (o+1) (fun i j y a b=>Nat.succ.inj (h (i+1) (j+1) y a b)) x
   cases hm:D.made with
   | none=>
     have e:mkL (D::r) o=mkL r (o+1):=by rw[mkL,hm];rfl
     rw[e]
     rcases ih with ⟨a,b⟩ | ⟨j,a,b⟩
     · refine .inl ⟨a,fun j q=>?_⟩
       cases j with
       | zero=>have:D.made=some x:=q;rw[hm] at this;cases this
       | succ j=>exact b j q
     · exact .inr ⟨j+1,a,by rw[b];congr 2;omega⟩
   | some y=>
     have e:mkL (D::r) o=(y,b7X (o:Nat))::mkL r (o+1):=by rw[mkL,hm];rfl
     rw[e]
     by_cases q:y=x
     · subst q
       exact .inr ⟨0,hm,by simp[CL]⟩
     · rcases ih with ⟨a,b⟩ | ⟨j,a,b⟩
       · refine .inl ⟨by simp[CL,q,a],fun j p=>?_⟩
         cases j with
         | zero=>have:D.made=some x:=p;rw[hm] at this;exact q (Option.some.inj this)
         | succ j=>exact b j p
       · exact .inr ⟨j+1,a,by simp only[CL];rw[if_neg q,b];congr 2;omega⟩
theorem ZF:∀(Ds:List Deed) (o:Nat) (x:Str),x∈(mkL Ds o).map (·.1)->∃j,mkN Ds j=some x
 | [],o,x,h=>by simp[mkL] at h
 | D::r,o,x,h=>by
   rw[mkL,xI] at h
   rcases yW.mp h with h | h
   · cases hm:D.made with
     | none=>rw[hm] at h;simp at h
     | some y=>
       rw[hm] at h
       have:x=y:=by simpa using h
       subst this;exact⟨0,hm⟩
   · obtain⟨j,e⟩:=ZF r (o+1) x h
     exact⟨j+1,e⟩
theorem V4:∀(Ds:List Deed) (o:Nat),(∀i j x,mkN Ds i=some x->mkN Ds j=some x->i=j)->((mkL Ds o).map (·.1)).Nodup
 | [],o,_=>by simp[mkL]
 | D::r,o,h=>by
   have ih:=V4 r (o+1) fun i j y a b=>Nat.succ.inj (h (i+1) (j+1) y a b)
   cases hm:D.made with
   | none=>rw[mkL,hm];exact ih
   | some y=>
     rw[mkL,hm]
     show(y::(mkL r (o+1)).map (·.1)).Nodup
     rw[xV]
     refine⟨fun hy=>?_,ih⟩
     obtain⟨j,e⟩:=ZF r (o+1) y hy
     have:=h 0 (j+1) y hm e
     omega
end DL
namespace DL
open PySem PySem.Spec L2
theorem V5:∀{ls ls':List (Str×Deed)},ls.map BS=ls'.map BS->ls=ls'
 | [],[],_=>rfl
 | [],_::_,h=>by simp at h
 | _::_,[],h=>by simp at h
 | a::r,b::s,h=>by
   simp only[zI,List.cons.injEq] at h
   obtain⟨h1,h2⟩:=h
   have h1:a3J [.str a.1,a.2.d] = .tuple [.str b.1,b.2.d]:=h1
   simp only[PyData.tuple.injEq,List.cons.injEq,PyData.str.injEq,and_true] at h1
   rw[V5 h2]
   exact congrArg (·::s) (Prod.ext h1.1 (JK h1.2))
theorem O7 {w w':List Th}{ls ls':List (Str×Deed)}(h:AV w ls=AV w' ls'):ls=ls':=by
 unfold AV at h
 simp only[PyData.tuple.injEq,List.cons.injEq,and_true] at h
 exact V5 h.2
abbrev dsL (ls:List (Str×Deed)):List Deed:=ls.map (·.2)
abbrev BL (ls:List (Str×Deed)):PyData:=.tuple (ls.map BS)
structure goodB (w:List Th) (ls:List (Str×Deed)):Prop where
 fresh:FreshD (dsL ls)
 real:∀l∈ls,l.2.real
 few:ls.length<=50
 hands:∀l∈ls,AG l.1
section
variable {M:Own}{Q:DS->Own->Prop}{w:List Th}{ls:List (Str×Deed)}
def JR:FSp:=⟨fun xs M=>∃(w:List Th) (ls:List (Str×Deed)),xs=[.d (AV w ls)]/\goodB w ls,fun xs M y M'=>∀(w:List Th) (ls:List (Str×Deed)),xs=[.d (AV w ls)]->∃p,M p=none/\y = .loc p/\M'=M.put p (.d (AW (mkL (dsL ls) 0)))⟩
theorem ZG (hg:goodB w ls) (q:∀p,M p=none->Q (.loc p) (M.put p (.d (AW (mkL (dsL ls) 0))))):[DS.d (AV w ls)].length=1/\JR.pre [.d (AV w ls)] M/\∀x M',JR.post [.d (AV w ls)] M x M'->Q x M':=
 ⟨rfl,⟨w,ls,rfl,hg⟩,fun x M' h=>by obtain⟨p,hp,rfl,rfl⟩:=h w ls rfl;exact q p hp⟩
end
def fEn:PyData->Str | .tuple [_,.str x]=>x | _=>a0Q ""
def wEn:PyData->PyData | .tuple [i,_]=>i | _=>.none
def cEn:PyData->Bool | .tuple [_,.none]=>false | _=>true
theorem fE:∀(Ds:List Deed) (o:Nat),((((Ds.map fun D=>IT D.d).zipIdx o).map fun p=>a3J [.int (p.2:Nat),p.1]).filter cEn).map (fun d=>(fEn d,wEn d))=mkL Ds o
 | [],o=>rfl
 | D::r,o=>by
   have ih:=fE r (o+1)
   rw[zI,List.zipIdx_cons,zI,a8V]
   rw[WA]
   cases h:D.made with
   | none=>
     rw[mkL,h]
     show(if cEn (.tuple [.int (o:Nat),.none])=true then _ else _:List PyData).map _=_
     rw[show cEn (.tuple [.int (o:Nat),.none])=false from rfl,if_neg nft]
     exact ih
   | some x=>
     rw[mkL,h]
     show(if cEn (.tuple [.int (o:Nat),.str x])=true then _ else _:List PyData).map _=_
     rw[show cEn (.tuple [.int (o:Nat),.str x])=true from rfl,if_pos rfl,zI,ih]
     rfl
end DL
namespace DL
open PySem PySem.Spec L2
theorem LX:∀{Ds:List Deed}{so sp:List Str},FX so sp Ds->∀D∈Ds,D.real
 | D::r,so,sp,h,E,hE=>by
   rcases yX.mp hE with rfl | q
   · exact h.2.2.1
   · exact LX h.2.2.2 E q
theorem rA {ls:List (Str×Deed)}{k:Nat}(hk:k < ls.length):∃l,ls[k]?=some l/\l∈ls/\(ls.map BS)[k]?=some (.tuple [.str l.1,l.2.d])/\(dsL ls)[k]?=some l.2:=
 ⟨ls[k],zV hk,b7Q hk,by rw[zF,zV hk];rfl,by rw[zF,zV hk];rfl⟩
end DL
namespace DL
open PySem PySem.Spec L2
theorem cG {t:Th}(h:AG t.1):zH (thD t)=true:=by
 refine BX ?_ ?_
 · exact HS (ds:=[.str t.1,.int t.2.1,.int t.2.2]) fun d hd=>by
     simp only[yX,xX,or_false] at hd
     rcases hd with rfl | rfl | rfl
     · exact DZ h
     · rfl
     · rfl
 · simp[thD,a4V,a1V]
theorem iL {D:Deed}(h:D.ok):zH D.d=true:=by
 have wk:b9W (.str D.word)=true:=zG D.word_ok
 have nk:∀x∈D.names,b9W (.str x)=true:=fun x hx=>DZ (h x hx)
 refine BX ?_ (by cases D <;> simp[Deed.d,a4V,a1V])
 cases D <;> (refine HS ?_;simp only[a2J])
 · exact⟨wk,nk _ (by simp[Deed.names]),rfl,rfl,by simp⟩
 · exact⟨wk,nk _ (by simp[Deed.names]),by simp⟩
 · exact⟨wk,nk _ (by simp[Deed.names]),rfl,by simp⟩
 · exact⟨wk,nk _ (by simp[Deed.names]),rfl,by simp⟩
 · exact⟨wk,nk _ (by simp[Deed.names]),nk _ (by simp[Deed.names]),by simp⟩
 · exact⟨wk,nk _ (by simp[Deed.names]),nk _ (by simp[Deed.names]),rfl,rfl,by simp⟩
 · exact⟨wk,nk _ (by simp[Deed.names]),nk _ (by simp[Deed.names]),by simp⟩
theorem S5 {d:PyData}(h:zH d=true):a0W d d=true:=PySem.SeqAt.eqv_refl _ (zG h)
end DL
namespace DL
open PySem PySem.Spec L2
theorem WJ {w:List Th}{ls:List (Str×Deed)}(h:goodB w ls):zH (BL ls)=true:=by
 refine BX (HS fun d hd=>?_) ?_
 · obtain⟨l,hl,rfl⟩:=zL.mp hd
   refine HS ?_
   simp only[a2J]
   exact⟨DZ (h.hands l hl),zG (iL (h.real l hl).1),by simp⟩
 · have:a1V (ls.map BS)<=5:=QT fun d hd=>by
     obtain⟨l,hl,rfl⟩:=zL.mp hd
     have:l.2.d.depth<=3:=by cases l.2 <;> simp[Deed.d,a4V,a1V]
     simp only[BS,a4V,a1V];omega
   simp only[a4V];omega
end DL
namespace L2
open PySem PySem.Spec PyProof.Rows
open AutoSeq1 (wpAny_loadPart')
section
variable {prog:Program}{w:World}{A:Around}{E:Value->Shared->Prop}{s:Shared}
theorem fF {it l:Addr}{i:Nat}{items:Array Value}(hh:A.handled=none) (hx:items[i]?=none):NxE prog w A it (fun h=>h.IsTupleIter it l i/\h.IsTuple l items):=fun s Q E hS hE=>by
 obtain⟨hit,ht⟩:=hS;obtain⟨o,ho,hc,hd⟩:=id hit;obtain⟨ol,hol,_,nl,hdl⟩:=id ht
 unfold a3K;refine zZ (wpAny_callSpecial?_slot (name:=a0Q "__next__") hit.typeIs b3W (wpAny_call_entry b3W hit.typeIs F.entry_tuple_iterator_next ?_ (F.args_tuple_iterator_next_1 _)));show wpAny _ _ (field (.ref it) 0 >>= _) _ _ s
 refine zZ (wpAny_field ho hd (x:=.ref l) rfl ?_);show wpAny _ _ (if (a0Z l==a4Q)=true then _ else _) _ _ s;rw[if_neg (show ¬((a0Z l==a4Q)=true) from nft)]
 show wpAny _ _ (field (.ref it) 1 >>= _) _ _ s;refine zZ (wpAny_field ho hd (x:=.int i 0) rfl ?_);show wpAny _ _ (seqItems? (.ref l) >>= _) _ _ s
 refine zZ (wpAny_seqItems hol hdl ?_);simp only[b3J,hx];refine zZ (wpAny_rule (zZ (wpAny_setField ho hd (by simp) ?_)))
 show wpAny _ _ (newExc (.type "StopIteration") [] >>= _) _ _ _;refine zZ ?_;simp only[newExc,newTuple]
 refine zZ (xM ?_ (by size_fits));refine zZ (m:=firstArgMember _ _) (wpAny_of_eq (a:=a4Q) (by first | rfl | (simp only[firstArgMember];rfl)) ?_);refine xM ?_ (by size_fits)
 simp only[raiseNew];refine zZ (wpAny_handled ?_);first | rw[show A.in1.handled=none from hh] | rw[hh]
 refine zZ (zY (wpAny_throw ?_));exact hE _ _ (((c2K ..).extBut.push _).push _) ⟨_,yZ _ rfl,rfl⟩
theorem iM (hh:A.handled=none) (it l:Addr) (hne:l≠it) (items:Array Value):Draws prog w A it [it,l] items.size (fun i v=>items[i]?=some v) (fun i h=>h.IsTupleIter it l i/\h.IsTuple l items) where
 live:=fun _ _ st=>let ⟨o,ho,_⟩:=st.1;⟨o,ho⟩
 frame:=fun _ _ _ st hk=>⟨st.1.at fun o e=>hk it (by simp) o e,let ⟨o,e,r⟩:=st.2;⟨o,hk l (by simp) o e,r⟩⟩
 item:=fun i s Q E hi st hQ=>lU hne (y:=items[i]) (by simp[hi]) s Q E st fun h' tk x e a b=>hQ x h' tk (by rw[e];simp[hi]) a b
 done:=fun s Q E st hE=>fF hh (by simp) s Q E st hE
theorem iN {e it l:Addr}{i:Nat}{items:Array Value}{old:Value}{Q:Option Value->Shared->Prop}(hh:A.handled=none) (he:IsEnum s.heap e it i old) (hit:s.heap.IsTupleIter it l i) (hl:s.heap.IsTuple l items) (hx:items[i]?=none)
   (hQ:∀h',Heap.ExtBut it s.heap h'->Q none { s with heap:=h' }):wpAny (model prog w) A (pyNext (.ref e)) Q E s:=by
 have hT:s.TypeIs (.ref e) "enumerate" := ⟨_,he,rfl⟩;unfold pyNext
 refine zZ (wpAny_attempt (wpAny_callSpecial?_slot (name:=a0Q "__next__") hT F.slot_enumerate_next (wpAny_call_entry F.slot_enumerate_next hT F.entry_enumerate_next ?_ (F.args_enumerate_next_1 _))));show wpAny _ _ (field (.ref e) 2 >>= _) _ _ _
 refine zZ (wpAny_field he rfl (x:=.ref it) rfl (zZ (fF (A:=A.in1) hh hx _ _ _ ⟨hit,hl⟩ fun h' x he' hx'=>?_)));obtain⟨o,ho,hc⟩:=hx'
 exact zZ (wpAny_isInstance (T:= "StopIteration") (b:=true) ⟨o,ho,hc⟩ isSubtype_stop (zY (hQ _ he')))
theorem ZH (l:Addr) (items:Array Value) :
   Meets (Builtin.«enumerate.__new__» ⟨[.type "enumerate", .ref l],[]⟩) (fun _ R s=>s.heap.IsTuple l items /\
     R (.ok (.ret (.ref (s.heap.push { cls:=.type "tuple_iterator", data:=.fields #[.ref l,.int 0 0] }).objs.size)))
       { s with heap:=(s.heap.push { cls:=.type "tuple_iterator", data:=.fields #[.ref l,.int 0 0] }).push { cls:=.type "enumerate", data:=.fields #[.none,.bool false,.ref s.heap.objs.size,rawInt 0,.none,.none] } }):=
 .of_wp fun prog w A R s h=>by
   obtain⟨hp,g,d,tk,os⟩:=s;obtain⟨hL,h⟩:=h;have hsub:=sub_enumerate;obtain⟨⟨c,dct,dt,sl⟩,hl,hc,n,hd⟩:=id hL
   wp_walk using wpAny_loadPart' hl
   refine wpAny_stack_any fun st=>zY ?_;split
   · rename_i c _ _ _ _ _;cases (c==Value.type "enumerate") <;> (wp_walk using wpAny_loadPart' hl,wpAny_pyIter_tuple hL;exact⟨_,rfl,h⟩)
   · (wp_walk using wpAny_loadPart' hl,wpAny_pyIter_tuple hL;exact⟨_,rfl,h⟩)
theorem cH {l:Addr}{items:Array Value}{Q:Value->Shared->Prop}(hL:s.heap.IsTuple l items)
   (h:∀h',IsEnum h' (s.heap.objs.size+1) s.heap.objs.size 0 .none->h'.IsTupleIter s.heap.objs.size l 0 ->
     (∀b o,s.heap.get? b=some o->h'.get? b=some o)->Q (.ref (s.heap.objs.size+1)) { s with heap:=h' }) :
   wpAny (model prog w) A (call (.type "enumerate") [.ref l]) Q E s:=by
 refine callType_new F.called_enumerate (by decide) (F.typeCall_enumerate_1 _) (F.newCall_enumerate_1 _) (fun obj=>F.args_object_init_2 obj _) F.entry_enumerate_new (ZH l items) ⟨hL,?_⟩
 have hz:(s.heap.push { cls:=.type "tuple_iterator", data:=.fields #[.ref l,.int 0 0] }).objs.size=s.heap.objs.size+1:=b1Q ..
 show _/\_
 rw[hz]
 have he:IsEnum ((s.heap.push { cls:=.type "tuple_iterator", data:=.fields #[.ref l,.int 0 0] }).push
     { cls:=.type "enumerate", data:=.fields #[.none,.bool false,.ref s.heap.objs.size,rawInt 0,.none,.none] }) (s.heap.objs.size+1) s.heap.objs.size 0 .none:=by
   have:=yZ (s.heap.push { cls:=.type "tuple_iterator", data:=.fields #[.ref l,.int 0 0] })
     (o:={ cls:=.type "enumerate", data:=.fields #[.none,.bool false,.ref s.heap.objs.size,rawInt 0,.none,.none] }) rfl
   rw[hz] at this;exact this
 exact⟨⟨_,he,rfl⟩,h _ he ⟨_,zW _ (yZ _ rfl),rfl,rfl⟩ fun b o x=>zW _ (zW _ x)⟩
end
end L2
namespace L2
open PySem PySem.Spec PyProof.Rows
def A0p (K:Frg) (l:Addr):It:=
 ⟨fun i H=>∃xs,SqT K H l xs/\i < xs.length,
  fun i H x H'=>∃p a,H p=none/\x = .ref p/\H'=upd H p (.tup [.int (i:Nat),a])/\∀xs,SqT K H l xs->xs[i]?=some a,
  fun i H=>∃xs,SqT K H l xs/\xs.length<=i⟩
theorem cI {P:Program}{w:World}{K:Frg}{elts:List Expr}{kk:Nat}{tpos:Pos}(e it l:Addr) (d1:e≠it) :
   Turn P w K (.Tuple elts kk tpos) (A0p K l) [e,it] e (fun i h=>(∃old,IsEnum h e it (i:Nat) old)/\h.IsTupleIter it l i) where
 mem:=by simp
 obj:=fun i h ⟨⟨old,a1⟩,a2⟩ b hb=>by
   simp only[yX,xX,or_false] at hb
   rcases hb with rfl | rfl
   · exact⟨_,a1,fun v q=>by cases q⟩
   · obtain⟨o,q,c,d⟩:=a2;exact⟨o,q,fun v z=>by rw[d] at z;cases z⟩
 keep:=fun i h h' ⟨⟨old,a1⟩,a2⟩ k=>⟨⟨old,k e (by simp) _ a1⟩,a2.at fun o q=>k it (by simp) o q⟩
 item:=by
   intro X hP hw hK hc i pins s σ H E I hf ⟨⟨old,a1⟩,a2⟩ hg
   subst hP hw hK
   obtain⟨xs,hx,lx⟩:=hg
   obtain⟨its,rx,px,_⟩:=I.tuple hx
   obtain⟨u,hu,ru⟩:=rx.get (zV lx)
   have hle:l≠e:=W5 I (hf e (by simp)) hx
   have hli:l≠it:=W5 I (hf it (by simp)) hx
   have hln:=rx.length
   refine wpAny_pyNext_enum_itemD (iM (items:=its.toArray) (A:=X.A.in1) (I.ok.hd hc) it l hli) a1 ⟨a2,px⟩ (show i < its.toArray.size by simp;omega) d1 (by simp;exact⟨d1,hle.symm⟩) fun x h' tk ex b1 b2 b3 b4 hk=>?_
   have ex:x=u:=by
     have:its[i]?=some x:=by simpa using ex
     rw[hu] at this
     exact(Option.some.inj this).symm
   subst ex
   refine⟨_,rfl,wpAny_letOwnedTupleGo_enum (s:={ s with heap:=h',toks:=tk+1 }) b1 fun h2 c1 sb=>?_⟩
   have lt:∀{c o},s.heap.get? c=some o->s.heap.objs.size≠c:=fun q=>a5X (zM q)
   have keep:∀b o,b∉[e,it]->s.heap.get? b=some o->h2.get? b=some o:=fun b o hb q=>by
     simp only[yX,xX,or_false,not_or] at hb
     exact sb.extBut b o hb.1 (hk b o hb.1 hb.2 q)
   have hTe:s.heap.objs.size≠e:=lt a1
   have I1:Inv X pins σ (upd H s.heap.objs.size (.tup [.int (i:Nat),xs[i]])) { s with heap:=h2,toks:=tk+1 }:=I.turnedT (t':=tk+1) (ch:=[e,it]) keep (fun b hb=>(hf b hb).1)
     (fun b hb=>let q:=hf b hb;⟨q.2.2.2.1,q.2.1,q.2.2.2.2.1,q.2.2.2.2.2⟩) (zR _)
     ⟨by show 2<=sizeLine;decide,[.int (i:Nat) tk,x],.cons ⟨_,rfl⟩ (.cons ru .nil),⟨_,sb.extBut _ _ hTe b3,rfl,_,rfl⟩⟩
   refine⟨.ref s.heap.objs.size,_,I1,rfl,⟨s.heap.objs.size,xs[i],I.hok.fresh (zR _),rfl,rfl,fun xs' hx'=>?_⟩,⟨⟨_,c1⟩,let ⟨o,q,r⟩:=b2.1;⟨o,sb.extBut it o (b5Q d1) q,r⟩⟩,fun b hb=>?_⟩
   · rw[I.tuple_inj hx' hx]
     exact zV lx
   · have hlt:s.heap.objs.size≠b:=by
       simp only[yX,xX,or_false] at hb
       rcases hb with rfl | rfl
       · exact lt a1
       · obtain⟨o,q,_⟩:=a2;exact lt q
     rw[AN (b5Q hlt)]
     exact(hf b hb).1
 done:=by
   intro X hP hw hK hc i pins s σ H E I hf ⟨⟨old,a1⟩,a2⟩ hg
   subst hP hw hK
   obtain⟨xs,hx,hend⟩:=hg
   obtain⟨its,rx,px,_⟩:=I.tuple hx
   have e1:=rx.length
   have hli:l≠it:=W5 I (hf it (by simp)) hx
   refine iN (I.ok.hd hc) a1 a2 px (by rw[b6Z];simp;omega) fun h' hk=>⟨rfl,I.turnedL (t':=s.toks) (ch:=[e,it]) (fun b o hb q=>?_) (fun b hb=>(hf b hb).1) fun b hb=>let q:=hf b hb;⟨q.2.2.2.1,q.2.1,q.2.2.2.2.1,q.2.2.2.2.2⟩⟩
   simp only[yX,xX,or_false,not_or] at hb
   exact hk b o hb.2 q
 self:=fun _ _ _ _ _ st h=>let ⟨_,q⟩:=st.1;wpAny_pyIter_enum q h
section
variable {X:Cx}{K:Frg}
def n5 (K:Frg) (ta:TA):TI:=fun σ H R=>ta σ H fun vs H1=>∃a,vs=[.ref a]/\(∃xs,SqT K H1 a xs)/\R (A0p K a) H1
theorem x9 {a:Expr}{ta:TA}{p pos:Pos}{elts:List Expr}{kk:Nat}{tpos:Pos}(hk:X.K=K) (hg:Gl X "enumerate") (hm:X.mg "enumerate"=none) (ha:PA X [a] ta) (hs:starEach [a] X.env=[(false,eval a X.env)]:=by rfl) :
   PI X (.Tuple elts kk tpos) (.Call (.Name "enumerate" p) [a] [] pos) (n5 K ta):=by
 subst hk
 intro pins s σ H R I h
 refine Call_ (GL I hg hm boot_enumerate (xH (thn (ha pos pins s σ H _ I h) fun us s1 ⟨vs,H1,I1,r1,q1⟩=>?_) hs rfl))
 obtain⟨l,e,⟨xs,hx⟩,q⟩:=q1
 subst e
 obtain⟨u,rfl,ru⟩:=D0 r1
 cases ru
 obtain⟨its,rx,px,_⟩:=I1.tuple hx
 refine cH px fun h' b1 b2 hk=>?_
 refine wpAny_pyIter_enum (s:={ s1 with heap:=h' }) b1 ?_
 refine⟨s1.heap.objs.size+1,[s1.heap.objs.size+1,s1.heap.objs.size],_,_,H1,rfl,I1.kept (t':=s1.toks) hk,cI (s1.heap.objs.size+1) s1.heap.objs.size l (Nat.succ_ne_self _),⟨⟨_,b1⟩,b2⟩,fun b hb=>?_,q⟩
 have hle:s1.heap.objs.size<=b:=by
   simp only[yX,xX,or_false] at hb
   rcases hb with rfl | rfl
   · exact a2Q _ _
   · exact zR _
 exact I1.fpOk hle (I1.hok.fresh hle)
end
end L2
namespace DL
open PySem PySem.Spec L2
section
variable {K:Frg}{ρ:List (Option DS)}{M:Own}{QI:List PyData->Own->Prop}
theorem n6 {ta:TA}(h:DA K ta ρ M fun xs M1=>∃as,xs=[.d (.tuple as)]/\QI (D5 as) M1):DI K (n5 K ta) ρ M QI:=fun σ H R Rl k=>
 h σ H _ Rl fun vs H1 xs M1 o1 s1 t1 ⟨as,e,q⟩=>by
   subst e
   obtain⟨v,r,rfl,h1,h3⟩:=s1
   cases h3
   unfold SI DV at h1
   obtain⟨a,va,rfl,hl,hd⟩:=h1
   have hlen:(D5 as).length=as.length:=by unfold D5;rw[zX,b5Z]
   refine⟨a,rfl,⟨va,hl.sq⟩,k _ (D5 as) H1 M1 o1 t1 ⟨fun i H' M' hi oa st=>?_,fun H' M' oa st=>?_,fun i H' M' x H2 oa st hi y=>?_⟩ q⟩
   · rw[hlen] at hi
     exact⟨va,(hl.grow st.grow).sq,by rw[hd.length];omega⟩
   · refine⟨va,(hl.grow st.grow).sq,?_⟩
     rw[hlen,hd.length];omega
   · obtain⟨p,xa,hp,rfl,rfl,hy⟩:=y
     have e1:=hy va (hl.grow st.grow).sq
     obtain⟨da,f1,f2⟩:=hd.get e1
     have gg:Grow K M'.W M'.W H' (upd H' p (.tup [.int (i:Nat),xa])):=AU _ hp
     refine⟨oa.new hp,⟨gg⟩,.tuple [.int (i:Nat),da],?_,?_⟩
     · unfold D5
       rw[zF,b7W,f1]
       simp
     · unfold DV
       exact⟨p,_,rfl,.inl ⟨fun w=>w (oa.none hp),.inl AH⟩,DVs.cons (by unfold DV;rfl) (DVs.cons ((f2.grow st.grow).grow gg) DVs.nil)⟩
end
end DL
namespace L2
open PySem PySem.Spec PyProof.Rows
theorem fG {X:Cx}{body:List Stmt}{h₀:ExceptHandler}{hs:List ExceptHandler}{pos:Pos}{tb:TS}(hx:∀e s,¬X.xe e s) (hb:PSs X body tb):PS X (.Try body (h₀::hs) [] [] pos) tb:=by
 intro pins s σ H D I h
 refine wpAny_Try_except (wpAny_mono (hb pins s σ H D I h) (fun f s1 q=>?_) fun e s1 q=>absurd q (hx _ _))
 cases f with
 | next=>exact wpAny_execs_nil q
 | ret v=>exact q
 | brk=>exact q
 | cont=>exact q
end L2
namespace L2
open PySem PySem.Spec PyProof.Rows
def A0q:List Nat:=[0,1,2,3,4,5,6,7,8,9,10,11,12,13,14,15,16,17,18,19,20,21,22,23]
theorem n8 {x:Str}{i:Nat}:∀(l:List Str) (k n:Nat),(l.zip (List.range' k n)).lookup x=some i->k<=i/\l[i - k]?=some x
 | [],_,_,h=>by cases h
 | _::_,_,0,h=>by cases h
 | a::r,k,n+1,h=>by
   rw[List.range'_succ,a6J,a3X] at h
   split at h
   · rename_i e
     have h:=Option.some.inj h
     subst h
     rw[Nat.sub_self]
     exact⟨zR _,by rw[eq_of_beq e];rfl⟩
   · obtain⟨h1,h2⟩:=n8 r (k+1) n h
     refine⟨by omega,?_⟩
     rw[show i - k=(i - (k+1))+1 by omega]
     exact h2
theorem WK {l:List Str}{x:Str}{i:Nat}(h:(l.zip A0q).lookup x=some i):l[i]?=some x:=(n8 l 0 24 h).2
theorem pvx {X:Cx}{i:Nat}{x:Str}{pos:Pos}(h:(X.N.zip A0q).lookup x=some i) (hv:Vis X.env.scope x) (hd:(x==("__debug__":Str))=false:=by decide)
   (hcd:(x==("__classdict__":Str))=false:=by decide):PE X (.Name x pos) (nU i):=iZ (WK h) hv hd hcd
end L2
namespace DL
open PySem PySem.Spec L2
theorem AR {K:Frg}{M:Own}{Q:DS->Own->Prop}{a b:Str}{t:Bool}(h:(zH (.str a)&&zH (.str b)&&(a0W (.str a) (.str b)==t))=true) (q:Q (.d (.bool t)) M):D2 K (gJ K false) (.d (.str a)) (.d (.str b)) M Q:=by
 simp only[a0V,beq_iff_eq] at h
 exact AQ h.1.1 h.1.2 (by rw[if_neg nft,h.2];exact q)
end DL
namespace L2
open PySem PySem.Spec
def A0r (scope:Scope) (NC:List Str):Bool:=(NC.all fun x=>(scope.names.lookup x).isSome)&&scope.names.all fun y=>!(y.2==.local||y.2==.free||y.2==.cell)||y.1==a0Q ".0" || NC.contains y.1
theorem FY {X:Cx}{scope:Scope}{NC:List Str}{fr:List (Option Nat)}{osc:Scope}{ON:List Str}(_:A0r scope NC=true) (h:kA osc ON scope NC fr=true) (e:X.env.scope=osc) (eN:X.N=ON):CSc X scope NC fr:=CSc.of h e eN
end L2
namespace DL
open PySem PySem.Spec L2
def HF:FSp:=⟨fun xs M=>∃(w:List Th) (ls:List (Str×Deed)),xs=[.d (AV w ls)]/\ls.length<=50,fun xs M y M'=>∀(w:List Th) (ls:List (Str×Deed)),xs=[.d (AV w ls)]->y = .d (.tuple ((dsL ls).map Deed.d))/\M'=M⟩
theorem WL {M:Own}{Q:DS->Own->Prop}{w:List Th}{ls:List (Str×Deed)}(hg:ls.length<=50) (q:Q (.d (.tuple ((dsL ls).map Deed.d))) M):[DS.d (AV w ls)].length=1/\HF.pre [.d (AV w ls)] M/\∀x M',HF.post [.d (AV w ls)] M x M'->Q x M':=
 ⟨rfl,⟨w,ls,rfl,hg⟩,fun x M' h=>by obtain⟨rfl,rfl⟩:=h w ls rfl;exact q⟩
structure rowP (w:List Th) (Ds:List Deed):Prop where
 fine:DW w
 book:L5 w Ds
 few:w.length+Ds.length < 60
end DL
namespace DL
open PySem PySem.Spec L2
theorem n9 {w:List Th}{Ds:List Deed}(h:rowP w Ds):DW (T3 w Ds)/\(T3 w Ds).length<=w.length+Ds.length:=by
 have:=WG h.book h.fine h.few (zR _)
 rw[show wsF w Ds Ds.length=T3 w Ds by unfold wsF;rw[a2K]] at this
 exact⟨this.1,this.2.1⟩
end DL
namespace DL
open PySem PySem.Spec L2
theorem iO {w w':List Th}{ls ls':List (Str×Deed)}(h:AV w ls=AV w' ls'):wD w=wD w'/\ls=ls':=by
 refine⟨?_,O7 h⟩
 unfold AV at h
 simp only[PyData.tuple.injEq,List.cons.injEq,and_true] at h
 exact h.1
end DL
namespace DL
open PySem PySem.Spec L2
theorem iP {w:List Th}{ls:List (Str×Deed)}(hw:∀t∈w,AG t.1) (hg:goodB w ls):zH (AV w ls)=true:=by
 have h2:=WJ hg
 refine BX (HS ?_) ?_
 · simp only[a2J]
   refine⟨HS fun d hd=>?_,zG h2,by simp⟩
   obtain⟨t,ht,rfl⟩:=zL.mp hd
   exact zG (cG (hw t ht))
 · have a:a1V (w.map thD)<=3:=QT fun d hd=>by
     obtain⟨t,ht,rfl⟩:=zL.mp hd
     simp[thD,a4V,a1V]
   have b:a1V (ls.map BS)<=5:=QT fun d hd=>by
     obtain⟨l,hl,rfl⟩:=zL.mp hd
     have:l.2.d.depth<=3:=by cases l.2 <;> simp[Deed.d,a4V,a1V]
     simp only[BS,a4V,a1V];omega
   simp only[AV,wD,a4V,a1V]
   omega
end DL
namespace DL
open PySem PySem.Spec L2
abbrev Ln:=Str×Deed
theorem LY:∀(Ds:List Deed) (so sp so' sp':List Str),FX so sp Ds->OS so sp Ds=(so',sp')->(so++sp).Nodup->(∀j x,mkN Ds j=some x->x∉sp')/\(∀k x,x∈OT Ds k->x∉sp')/\sp'.Sublist sp/\(so'++sp').Nodup
 | [],so,sp,so',sp',_,e,nd=>by cases e;exact⟨fun j x h=>by simp[mkN] at h,fun k x h=>by simp[OT] at h,a5Z _,nd⟩
 | D::r,so,sp,so',sp',h,e,nd=>by
   obtain⟨h1,h2,_,h3⟩:=h
   have nd2:(B6 so D++C6 sp D).Nodup:=nd.sublist (HC h2)
   obtain⟨g1,g2,g3,g4⟩:=LY r _ _ _ _ h3 e nd2
   have dis:∀x,x∈so->x∈sp->False:=fun x a b=>(List.nodup_append.mp nd).2.2 x a x b rfl
   refine⟨fun j x ej=>?_,fun k x ek=>?_,g3.trans (KP sp D),g4⟩
   · cases j with
     | zero=>
       intro hx
       have a:D.made=some x:=ej
       have q1:=g3.subset hx
       have q2:=h2 x a
       unfold C6 at q1
       rw[a] at q1
       dsimp only at q1
       have nsp:sp.Nodup:=(List.nodup_append.mp nd).2.1
       cases sp with
       | nil=>simp at q2
       | cons y ys=>
         have:y=x:=by simpa using q2
         subst this
         exact(xV.mp nsp).1 (by simpa using q1)
     | succ j=>exact g1 j x ej
   · cases k with
     | zero=>
       have hm:x∈D.must:=ek
       obtain⟨a,b⟩:=yL.mp hm
       have b':¬D.made=some x:=of_decide_eq_true b
       exact fun q=>dis x (JL h1 a b') ((KP sp D).subset (g3.subset q))
     | succ k=>exact g2 k x ek
theorem nA (a b:List Deed) (i:Nat):mkN (a++b) i=if i < a.length then mkN a i else mkN b (i - a.length):=by
 unfold mkN;rw[List.getElem?_append];by_cases c:i < a.length
 · rw[if_pos c,if_pos c]
 · rw[if_neg c,if_neg c]
theorem nB (a b:List Deed) (i:Nat):OT (a++b) i=if i < a.length then OT a i else OT b (i - a.length):=by
 unfold OT;rw[List.getElem?_append];by_cases c:i < a.length
 · rw[if_pos c,if_pos c]
 · rw[if_neg c,if_neg c]
theorem iQ {a b:List Deed}{so sp so' sp' sp2:List Str}(h1:FX so sp a) (e:OS so sp a=(so',sp')) (nd:(so++sp).Nodup) (p:sp2.Perm sp') (h2:FX so' sp2 b):FreshD (a++b):=by
 obtain⟨g1,g2,g3,g4⟩:=LY a so sp so' sp' h1 e nd
 obtain⟨_,fa⟩:=O6 a so sp h1 nd
 obtain⟨mb,fb⟩:=O6 b so' sp2 h2 ((List.Perm.append_left so' p).nodup_iff.mpr g4)
 refine⟨fun i j x e1 e2=>?_,fun j k x e1 e2=>?_⟩
 · rw[nA] at e1 e2
   split at e1 <;> split at e2
   · exact fa.one i j x e1 e2
   · exact absurd (p.mem_iff.mp (mb _ x e2)) (g1 _ x e1)
   · exact absurd (p.mem_iff.mp (mb _ x e1)) (g1 _ x e2)
   · have:=fb.one _ _ x e1 e2;omega
 · rw[nA] at e1
   rw[nB] at e2
   split at e1 <;> split at e2
   · exact fa.bef j k x e1 e2
   · omega
   · exact absurd (p.mem_iff.mp (mb _ x e1)) (g2 _ x e2)
   · have:=fb.bef _ _ x e1 e2;omega
section
variable {M:Own}{Q:DS->Own->Prop}{w:List Th}{A B:List Ln}
def lnQ (so sp:List Str) (cs:List Int) (ls:List Ln) (so' sp':List Str):Prop:=FX so sp (dsL ls)/\OS so sp (dsL ls)=(so',sp')/\(∀l∈ls,AG l.1)/\ls.length<=cs.length/\namesOK (so'++sp')
theorem cJ {so sp so' sp' so2 sp2 sp3:List Str}{cs cs2:List Int}{ls as:List Ln}(hn:namesOK (so++sp)) (h1:lnQ so sp cs ls so' sp') (p:sp3.Perm sp') (h2:lnQ so' sp3 cs2 as so2 sp2) (hl:cs.length+cs2.length<=50):goodB w (ls++as) where
 fresh:=by
   have e:dsL (ls++as)=dsL ls++dsL as:=xI
   rw[e]
   exact iQ h1.1 h1.2.1 hn.2.1 p h2.1
 real:=fun l hl=>by
   rcases yW.mp hl with q | q
   · exact LX h1.1 _ (zL.mpr ⟨l,q,rfl⟩)
   · exact LX h2.1 _ (zL.mpr ⟨l,q,rfl⟩)
 few:=by rw[yY];have:=h1.2.2.2.1;have:=h2.2.2.2.1;omega
 hands:=fun l hl=>by
   rcases yW.mp hl with q | q
   · exact h1.2.2.1 l q
   · exact h2.2.2.1 l q
end
end DL
namespace DL
open PySem PySem.Spec L2
def S6:Deed->Option Str | .take x=>some x | .name x _=>some x | .join _ y=>some y | _=>none
def WM:Option Str->PyData | some x=>.str x | none=>.none
theorem xA (D:Deed):IT D.d=WM D.made:=by cases D <;> rfl
theorem nC {D:Deed}(hr:D.real) {z:Str}(h:D.made=some z):AG z:=hr.1 z (by cases D <;> simp_all [Deed.made,Deed.names])
theorem ZI {e:Option Str}(h:∀z,e=some z->AG z):zH (WM e)=true:=by
 cases e with
 | none=>rfl
 | some z=>exact AL (h z rfl)
theorem nD (a b:Option Str):a0W (WM a) (WM b)=decide (a=b):=by
 cases a <;> cases b
 · rfl
 · rfl
 · rfl
 · rename_i x y
   show a0W (.str x) (.str y)=_
   rw[D8,b0Q,beq_iff_eq,decide_eq_true_iff,Option.some.injEq]
section
variable {M:Own}{Q:DS->Own->Prop}{w:List Th}{A B:List Ln}
def V6 (D:Deed):List Str:=D.made.toList
def nE (D:Deed):List Str:=(S6 D).toList
def JS:Deed->List Str | .put _ _ _=>[] | .join x y=>[x,y] | .take x=>[x] | .move x _=>[x] | .count x _=>[x] | .name x _=>[x] | .split x _ _ _=>[x]
theorem fH {D:Deed}(hr:D.real):D.must=JS D:=by
 have hap:=hr.2.1
 cases D <;> first | (simp[Deed.must,Deed.names,Deed.made,JS];done) | (simp[Deed.must,Deed.names,Deed.made,JS,b5Q hap];done)
end
end DL
namespace DL
open PySem PySem.Spec L2
def enN (Ds:List Deed) (j:Nat):Option Str:=(Ds[j]?).bind S6
def wnN (Ds:List Deed) (j:Nat):List Str:=match Ds[j]? with | some D=>JS D | none=>[]
def BkD (S:List Str) (Ds:List Deed):Prop:=∀k,(∀x,mkN Ds k=some x->x∉S/\∀j,j < k->mkN Ds j≠some x)/\∀x∈wnN Ds k,(x∈S∨∃j,j < k/\mkN Ds j=some x)/\∀j,j < k->enN Ds j≠some x
def rB (st kn:List Str) (D:Deed):Bool:=!((V6 D).any fun x=>decide (x∈kn))&&!((JS D).any fun x=>!decide (x∈st))
def ZJ (st:List Str) (D:Deed):List Str:=(st.filter fun z=>!decide (z∈nE D))++V6 D
theorem ZK {D:Deed}{x:Str}(h:S6 D=some x):x∈JS D:=by cases D <;> simp_all [S6,JS]
theorem FN {D:Deed}{x:Str}:x∈V6 D↔D.made=some x:=by unfold V6;cases D.made <;> simp[eq_comm]
theorem S7 {D:Deed}{x:Str}:x∈nE D↔S6 D=some x:=by unfold nE;cases S6 D <;> simp[eq_comm]
theorem S8 {st kn:List Str}{D:Deed}:rB st kn D=true↔(∀x,D.made=some x->x∉kn)/\∀x∈JS D,x∈st:=by
 unfold rB
 rw[a0V,c1W,c1W,c1K,c1K]
 constructor
 · rintro⟨h1,h2⟩
   exact⟨fun x e q=>h1 x (FN.mpr e) (decide_eq_true q),fun x hx=>by have:=h2 x hx;simpa using this⟩
 · rintro⟨h1,h2⟩
   exact⟨fun x e q=>h1 x (FN.mp e) (of_decide_eq_true q),fun x hx=>by have:=h2 x hx;simpa using this⟩
theorem EG {Ds:List Deed}{D:Deed}{k:Nat}:(Ds++[D])[k]?=if k < Ds.length then Ds[k]? else if k=Ds.length then some D else none:=by
 rw[List.getElem?_append]
 split
 · rfl
 · rename_i h
   by_cases e:k=Ds.length
   · subst e;simp
   · rw[if_neg e];rw[a1Z];simp;omega
structure StB (S st kn:List Str) (Ds:List Deed):Prop where
 bk:BkD S Ds
 kn_:∀x,x∈kn↔x∈S∨∃j,mkN Ds j=some x
 st_:∀x,x∈st↔x∈kn/\∀j,enN Ds j≠some x
theorem WN {S:List Str}{Ds:List Deed}{D:Deed}:BkD S (Ds++[D])↔BkD S Ds/\(∀x,D.made=some x->x∉S/\∀j,mkN Ds j≠some x)/\∀x∈JS D,(x∈S∨∃j,mkN Ds j=some x)/\∀j,enN Ds j≠some x:=by
 have lt1:∀j,j < Ds.length->mkN (Ds++[D]) j=mkN Ds j/\enN (Ds++[D]) j=enN Ds j/\wnN (Ds++[D]) j=wnN Ds j:=fun j hj=>by
   unfold mkN enN wnN
   rw[EG,if_pos hj]
   exact⟨rfl,rfl,rfl⟩
 have out:∀j,Ds.length<=j->mkN Ds j=none/\enN Ds j=none:=fun j hj=>by
   unfold mkN enN
   rw[a1Z hj];exact⟨rfl,rfl⟩
 have at_:mkN (Ds++[D]) Ds.length=D.made/\wnN (Ds++[D]) Ds.length=JS D:=by
   unfold mkN wnN
   rw[EG,if_neg (yF _),if_pos rfl];exact⟨rfl,rfl⟩
 have inD:∀{j x},mkN Ds j=some x->j < Ds.length:=fun {j x} e=>by
   rcases Nat.lt_or_ge j Ds.length with q | q
   · exact q
   · rw[(out j q).1] at e;cases e
 have inE:∀{j x},enN Ds j=some x->j < Ds.length:=fun {j x} e=>by
   rcases Nat.lt_or_ge j Ds.length with q | q
   · exact q
   · rw[(out j q).2] at e;cases e
 constructor
 · intro h
   refine⟨fun k=>?_,fun x e=>?_,fun x hx=>?_⟩
   · by_cases hk:k < Ds.length
     · obtain⟨a,b⟩:=h k
       rw[(lt1 k hk).1,(lt1 k hk).2.2] at *
       refine⟨fun x e=>⟨(a x e).1,fun j hj=>?_⟩,fun x hx=>⟨(b x hx).1.imp id fun⟨j,hj,e⟩=>⟨j,hj,by rw[← (lt1 j (by omega)).1];exact e⟩,fun j hj=>?_⟩⟩
       · rw[← (lt1 j (by omega)).1];exact(a x e).2 j hj
       · rw[← (lt1 j (by omega)).2.1];exact(b x hx).2 j hj
     · refine⟨fun x e=>absurd (inD e) hk,fun x hx=>?_⟩
       unfold wnN at hx
       rw[a1Z (by omega)] at hx;cases hx
   · obtain⟨a,b⟩:=(h Ds.length).1 x (by rw[at_.1];exact e)
     exact⟨a,fun j ej=>b j (inD ej) (by rw[(lt1 j (inD ej)).1];exact ej)⟩
   · obtain⟨a,b⟩:=(h Ds.length).2 x (by rw[at_.2];exact hx)
     exact⟨a.imp id fun⟨j,hj,e⟩=>⟨j,by rw[← (lt1 j hj).1];exact e⟩,fun j ej=>b j (inE ej) (by rw[(lt1 j (inE ej)).2.1];exact ej)⟩
 · rintro⟨h,hm,hw⟩ k
   rcases c2Z k Ds.length with hk | hk | hk
   · obtain⟨a,b⟩:=h k
     rw[(lt1 k hk).1,(lt1 k hk).2.2]
     refine⟨fun x e=>⟨(a x e).1,fun j hj=>?_⟩,fun x hx=>⟨(b x hx).1.imp id fun⟨j,hj,e⟩=>⟨j,hj,by rw[(lt1 j (by omega)).1];exact e⟩,fun j hj=>?_⟩⟩
     · rw[(lt1 j (by omega)).1];exact(a x e).2 j hj
     · rw[(lt1 j (by omega)).2.1];exact(b x hx).2 j hj
   · subst hk
     rw[at_.1,at_.2]
     refine⟨fun x e=>⟨(hm x e).1,fun j hj=>?_⟩,fun x hx=>⟨(hw x hx).1.imp id fun⟨j,e⟩=>⟨j,inD e,by rw[(lt1 j (inD e)).1];exact e⟩,fun j hj=>?_⟩⟩
     · rw[(lt1 j hj).1];exact(hm x e).2 j
     · rw[(lt1 j hj).2.1];exact(hw x hx).2 j
   · have e:(Ds++[D])[k]?=none:=by rw[a1Z];simp;omega
     unfold mkN wnN
     rw[e]
     exact⟨fun x q=>(by cases q),fun x q=>(by cases q)⟩
theorem StB.step {S st kn:List Str}{Ds:List Deed}{D:Deed}(h:StB S st kn Ds) (ok:rB st kn D=true):StB S (ZJ st D) (kn++V6 D) (Ds++[D]):=by
 obtain⟨h1,h2⟩:=S8.mp ok
 have mk:∀x,(∃j,mkN (Ds++[D]) j=some x)↔(∃j,mkN Ds j=some x)∨D.made=some x:=fun x=>by
   constructor
   · rintro⟨j,e⟩
     unfold mkN at e
     rw[EG] at e
     split at e
     · exact .inl ⟨j,e⟩
     · split at e
       · exact .inr e
       · cases e
   · rintro (⟨j,e⟩ | e)
     · refine⟨j,?_⟩
       unfold mkN at e ⊢
       rw[EG]
       split
       · exact e
       · rename_i hj;rw[a1Z (by omega)] at e;cases e
     · exact⟨Ds.length,by unfold mkN;rw[EG,if_neg (yF _),if_pos rfl];exact e⟩
 have en:∀x,(∀j,enN (Ds++[D]) j≠some x)↔(∀j,enN Ds j≠some x)/\S6 D≠some x:=fun x=>by
   constructor
   · intro h
     refine⟨fun j e=>h j ?_,fun e=>h Ds.length ?_⟩
     · unfold enN at e ⊢
       rw[EG]
       split
       · exact e
       · rename_i hj;rw[a1Z (by omega)] at e;cases e
     · unfold enN;rw[EG,if_neg (yF _),if_pos rfl];exact e
   · rintro⟨a,b⟩ j e
     unfold enN at e
     rw[EG] at e
     split at e
     · exact a j e
     · split at e
       · exact b e
       · cases e
 refine⟨WN.mpr ⟨h.bk,fun x e=>?_,fun x hx=>?_⟩,fun x=>?_,fun x=>?_⟩
 · have:=h1 x e
   rw[h.kn_] at this
   exact⟨fun q=>this (.inl q),fun j q=>this (.inr ⟨j,q⟩)⟩
 · obtain⟨a,b⟩:=(h.st_ x).mp (h2 x hx)
   exact⟨(h.kn_ x).mp a,b⟩
 · rw[yW,h.kn_,mk,FN,or_assoc]
 · unfold ZJ
   rw[yW,yL,yW,en,FN]
   have hne:∀x,D.made=some x->(∀j,enN Ds j≠some x)/\S6 D≠some x:=fun x e=>by
     refine⟨fun j ej=>?_,fun e2=>h1 x e ((h.st_ x).mp (h2 x (ZK e2))).1⟩
     have hx:x∈wnN Ds j:=by
       unfold enN at ej;unfold wnN
       cases hD:Ds[j]? with
       | none=>rw[hD] at ej;cases ej
       | some F=>rw[hD] at ej;exact ZK ej
     refine h1 x e ((h.kn_ x).mpr (((h.bk j).2 x hx).1.imp id fun⟨i,_,q⟩=>⟨i,q⟩))
   constructor
   · rintro (⟨a,b⟩ | a)
     · obtain⟨c,d⟩:=(h.st_ x).mp a
       exact⟨.inl c,d,fun q=>by simp[S7.mpr q] at b⟩
     · exact⟨.inr a,hne x a⟩
   · rintro⟨a | a,b,c⟩
     · exact .inl ⟨(h.st_ x).mpr ⟨a,b⟩,by simp[S7,c]⟩
     · exact .inr a
end DL
namespace DL
open PySem PySem.Spec L2
theorem nG {st so:List Str}{D:Deed}(h:∀x,x∈st↔x∈so):∀x,x∈ZJ st D↔x∈B6 so D:=fun x=>by
 unfold ZJ
 rw[yW,yL,FN,h]
 have he:(!decide (x∈nE D))=true↔S6 D≠some x:=by simp[S7]
 rw[he]
 cases D <;> simp[B6,S6,Deed.made,yW,yL] <;> simp[eq_comm]
theorem S9 {S:List Str}:∀(Ds Pre:List Deed) (st kn so sp so' sp':List Str),StB S st kn Pre->(∀x,x∈st↔x∈so)->(∀x∈sp,x∉kn)->(so++sp).Nodup->FX so sp Ds->OS so sp Ds=(so',sp')->∃st' kn',StB S st' kn' (Pre++Ds)/\(∀x,x∈st'↔x∈so')/\∀x∈sp',x∉kn'
 | [],Pre,st,kn,so,sp,so',sp',h,h1,h2,_,_,e=>by cases e;exact⟨st,kn,by rw[a9V];exact h,h1,h2⟩
 | D::r,Pre,st,kn,so,sp,so',sp',h,h1,h2,nd,hf,e=>by
   obtain⟨g1,g2,g3,g4⟩:=hf
   have hin:∀x,D.made=some x->x∈sp:=fun x ex=>b6W (g2 x ex)
   have ok:rB st kn D=true:=S8.mpr ⟨fun x ex=>h2 x (hin x ex),fun x hx=>by
     rw[← fH g3] at hx
     obtain⟨a,b⟩:=yL.mp hx
     exact(h1 x).mpr (JL g1 a (of_decide_eq_true b))⟩
   obtain⟨st',kn',a,b,c⟩:=S9 r (Pre++[D]) _ _ _ _ so' sp' (h.step ok) (nG h1) (fun x hx q=>by
     rcases yW.mp q with q | q
     · exact h2 x ((KP sp D).subset hx) q
     · have ex:=FN.mp q
       have hh:=g2 x ex
       have nsp:sp.Nodup:=(List.nodup_append.mp nd).2.1
       unfold C6 at hx
       rw[ex] at hx
       cases sp with
       | nil=>simp at hh
       | cons y ys=>
         have:y=x:=by simpa using hh
         subst this
         exact(xV.mp nsp).1 (by simpa using hx)) (nd.sublist (HC g2)) g4 e
   exact⟨st',kn',by rw[show Pre++D::r=(Pre++[D])++r by simp];exact a,b,c⟩
theorem nH {S so sp so' sp' so2 sp2 sp3:List Str}{cs cs2:List Int}{ls as:List Ln}(hS:∀x,x∈S↔x∈so) (hn:namesOK (so++sp)) (h1:lnQ so sp cs ls so' sp') (p:sp3.Perm sp') (h2:lnQ so' sp3 cs2 as so2 sp2):BkD S (dsL (ls++as)):=by
 have dis:∀x,x∈so->x∈sp->False:=fun x a b=>(List.nodup_append.mp hn.2.1).2.2 x a x b rfl
 obtain⟨st,kn,a,b,c⟩:=S9 (S:=S) (dsL ls) [] S S so sp so' sp' ⟨fun k=>by unfold mkN wnN;simp,fun x=>by simp[mkN],fun x=>by simp[enN]⟩ hS (fun x hx q=>dis x ((hS x).mp q) hx) hn.2.1 h1.1 h1.2.1
 obtain⟨g1,g2,g3,g4⟩:=LY _ so sp so' sp' h1.1 h1.2.1 hn.2.1
 obtain⟨st2,kn2,a2,_⟩:=S9 (S:=S) (dsL as) _ st kn so' sp3 so2 sp2 a b (fun x hx=>c x (p.mem_iff.mp hx)) ((List.Perm.append_left so' p).nodup_iff.mpr g4) h2.1 h2.2.1
 have:=a2.bk
 rw[List.nil_append] at this
 rw[show dsL (ls++as)=dsL ls++dsL as from xI]
 exact this
section
variable {M:Own}{Q:DS->Own->Prop}{w:List Th}{A B:List Ln}
abbrev T4 (w:List Th):List Str:=w.map (·.1)
end
end DL
namespace L2
open PySem PySem.Spec PyProof.Rows
abbrev rC:=Option Key
def nI:rC->Value->Bool
 | some k,v=>KZ k v
 | none,.none=>true
 | none,_=>false
def okH (w:World):rC->Int
 | some k=>xL w k
 | none=>0xFCA86420
theorem BP:∀{k:rC}{v:Value},nI k v=true->(k=none/\v = .none)∨∃k',k=some k'/\KZ k' v=true
 | some k,v,h=>.inr ⟨k,rfl,h⟩
 | none,v,h=>by cases v <;> first | exact .inl ⟨rfl,rfl⟩ | exact nomatch h
theorem iR {prog:Program}{w:World}{A:Around}{E:Value->Shared->Prop}{s:Shared}{Q:Int->Shared->Prop}(h:Q 0xFCA86420 { s with toks:=s.toks+1 }):wpAny (model prog w) A (pyHash .none) Q E s:=by
 have hT:s.TypeIs .none "NoneType" := rfl
 unfold pyHash
 have hv:[a4Q].any Value.onHeap=false:=rfl
 refine zZ ?_
 rw[cRoomFor,if_neg (by rw[hv];exact nft)];refine zY ?_
 refine zZ (wpAny_specialOf hT PySem.F.slot_NoneType_hash.lookup ?_)
 show wpAny _ _ (if (some (Value.builtin "NoneType.__hash__")==some a4Q)=true then _ else _) Q E s
 rw[if_neg (by rw[beq_builtin_none];exact nft)]
 refine zZ (wpAny_specialOf hT PySem.F.slot_NoneType_hash.lookup ?_)
 show wpAny _ _ (callSpecialIfBoundUnlessNone? .none "__hash__" _ >>= _) Q E s
 refine zZ (wpAny_callSpecialIfBoundUnlessNone?_slot hT PySem.F.slot_NoneType_hash
   (wpAny_call_entry PySem.F.slot_NoneType_hash hT PySem.F.entry_NoneType_hash
     (show wpAny _ _ (do ret (← mkInt 0xFCA86420)) _ _ s from wpAny_ret_mkInt ?_) (PySem.F.args_NoneType_hash_1 _)))
 show wpAny _ _ (if (decide (-(2:Int) ^ 63<=0xFCA86420)&&decide ((0xFCA86420:Int) < 2 ^ 63))=true then _ else _) Q E _
 rw[if_pos (by decide)]
 exact zY h
def fI (prog:Program) (w:World):PySem.KeyKind prog w rC where
 is:=nI
 hash:=okH w
 inj:=fun v a b ha hb=>by
   rcases BP ha with ⟨rfl,rfl⟩ | ⟨a',rfl,ha⟩
   · rcases BP hb with ⟨rfl,_⟩ | ⟨b',rfl,hb⟩
     · rfl
     · rcases AS hb with ⟨_,_,_,e⟩ | ⟨_,_,_,e⟩ <;> exact nomatch e
   · rcases BP hb with ⟨rfl,rfl⟩ | ⟨b',rfl,hb⟩
     · rcases AS ha with ⟨_,_,_,e⟩ | ⟨_,_,_,e⟩ <;> exact nomatch e
     · rw[(AM prog w).inj v a' b' ha hb]
 byValue:=fun k v h=>by
   rcases BP h with ⟨rfl,rfl⟩ | ⟨a',rfl,ha⟩
   · rfl
   · exact(AM prog w).byValue a' v ha
 pyHash:=fun hv h=>by
   rcases BP hv with ⟨rfl,rfl⟩ | ⟨a',rfl,ha⟩
   · exact iR h
   · exact(AM prog w).pyHash ha h
 eqBool:=fun {A E s a b u v Q} hu hv h=>by
   rcases BP hu with ⟨rfl,rfl⟩ | ⟨a',rfl,ha⟩
   · rcases BP hv with ⟨rfl,rfl⟩ | ⟨b',rfl,hb⟩
     · exact SeqAt.EqAt.same .none _ _ _ _ (by simpa using h)
     · rcases AS hb with ⟨j,u,rfl,rfl⟩ | ⟨y,u,rfl,rfl⟩
       · exact SeqAt.EqAt.none_int j u _ _ _ _ h
       · exact SeqAt.EqAt.none_str y u _ _ _ _ h
   · rcases BP hv with ⟨rfl,rfl⟩ | ⟨b',rfl,hb⟩
     · rcases AS ha with ⟨j,u,rfl,rfl⟩ | ⟨y,u,rfl,rfl⟩
       · exact SeqAt.EqAt.int_none j u _ _ _ _ h
       · exact SeqAt.EqAt.str_none y u _ _ _ _ h
     · refine(AM prog w).eqBool ha hb ?_
       by_cases e:a'=b'
       · subst e;simpa using h
       · rw[decide_eq_false e];rw[decide_eq_false (fun q=>e (Option.some.inj q))] at h;exact h
 «strs»:=fun k x t v h=>by
   rcases BP h with ⟨rfl,e⟩ | ⟨a',rfl,ha⟩
   · exact nomatch e
   · exact(AM prog w).strs a' x t v ha
theorem rD {prog:Program}{w:World}{h:Heap}{a:Addr}{f:Key->Option Value}(m:h.MapOf (AM prog w) a f):∃g,h.MapOf (fI prog w) a g/\g none=none:=by
 obtain⟨o,es,ep,h1,h2,h3,h4,h5⟩:=m
 refine⟨fun k=>findBy nI es k,⟨o,es,ep,h1,h2,h3,fun e he=>?_,fun k=>rfl⟩,?_⟩
 · obtain⟨k,a,b⟩:=h4 e he
   exact⟨some k,a,b⟩
 · show findBy nI es none=none
   rw[findBy_of_findIdx?,show(es.findIdx? fun e=>nI none e.key)=none from ?_]
   rw[Array.findIdx?_eq_none_iff]
   intro e he
   obtain⟨k,a,_⟩:=h4 e he
   rcases AS (show KZ k e.key=true from a) with ⟨_,_,_,q⟩ | ⟨_,_,_,q⟩ <;> rw[q] <;> rfl
def sZ (ty td:TE):TE:=fun σ H Q=>ty σ H fun y H1=>td σ H1 fun x H2=>∃a,x = .ref a/\((∃o,XS H2 a y o/\Q (.bl o.isSome) H2)∨∃kvs,Rd H2 a (.dK kvs)/\y = .non/\Q (.bl false) H2)
theorem rE {X:Cx}{o i:Expr}{td ty:TE}(hu:X.A.units+1 < cLine) (hi:PE X i ty) (ho:PE X o td):PC X .In i o (sZ ty td):=by
 intro pins s σ H Q I h
 refine thn (hi pins s σ H _ I h) fun iv s1 ⟨y,H1,I1,ry,q1⟩=>thn (ho pins s1 σ H1 _ I1 q1) fun u s2 ⟨x,H2,I2,rx,a,ex,g⟩=>?_
 subst ex
 obtain rfl:u=a0Z a:=rx
 rcases g with ⟨ov,g,q2⟩ | ⟨kvs,e,rfl,q2⟩
 · exact zE hu I2 g ry fun s3 I3=>⟨.bl ov.isSome,H2,I3,rfl,q2⟩
 · cases (show iv=a4Q from ry)
   obtain⟨z,hd,vs,rel,dd⟩:=MH I2.hok e
   obtain⟨g,hm,hg⟩:=rD dd.mapOf
   refine wpAny_in_of (knd:=fI X.prog X.w) (k:=none) rfl hd hm ?_
   rw[hg]
   exact⟨.bl false,H2,I2.tok _,rfl,q2⟩
end L2
namespace DL
open PySem PySem.Spec L2
variable {K:Frg}{ρ:List (Option DS)}{M:Own}{Q:DS->Own->Prop}
theorem rF {td ty:TE}(h:DE K ty ρ M fun y M1=>DE K td ρ M1 fun x M2=>∃(a:Addr) (ts:List (Str×PyData)) (k:Option Str),x = .loc a/\y = .d (k.elim .none .str)/\M2 a=some (.d (AW ts))/\Q (.d (.bool (k.elim false fun k=>(CL ts k).isSome))) M2):DE K (sZ ty td) ρ M Q:=fun σ H QQ R kk=>
 h σ H _ R fun v H1 x M1 o1 s1 t1 h1=>h1 σ H1 _ (R.step o1 t1) fun u H2 y M2 o2 s2 t2 h2=>by
   obtain⟨a,ts,k,rfl,rfl,m,q⟩:=h2
   unfold SI at s2
   subst s2
   obtain⟨ks,e1,e2⟩:=o2 a _ m
   cases k with
   | none=>
     refine⟨a,rfl,.inr ⟨ks,.inl e1,?_,kk _ H2 _ M2 o2 AJ (t1.trans t2) q⟩⟩
     unfold SI DV at s1
     exact s1
   | some k=>
     rw[AO s1]
     refine⟨a,rfl,.inl ⟨FP ks (a1K k),.inl ⟨ks,a1K k,.inl e1,rfl,rfl⟩,kk _ H2 _ M2 o2 ?_ (t1.trans t2) q⟩⟩
     rcases H0 (k:=k) e2 with ⟨d',w',a1,a2,a3⟩ | ⟨a1,a2⟩
     · show SI K H2 M2 (.d (.bool (CL ts k).isSome)) _
       rw[a1,a2];exact AJ
     · show SI K H2 M2 (.d (.bool (CL ts k).isSome)) _
       rw[a1,a2];exact AJ
end DL
namespace DL
open PySem PySem.Spec L2
theorem A0s {st:List Str}{D:Deed}:ZJ st D=B6 st D:=by
 cases D <;> simp[ZJ,B6,nE,S6,V6,Deed.made]
def stN (st:List Str) (Ds:List Deed):List Str:=Ds.foldl ZJ st
theorem nJ (st:List Str) (Ds:List Deed) (D:Deed):stN st (Ds++[D])=ZJ (stN st Ds) D:=by unfold stN;rw[List.foldl_append];rfl
theorem rG:∀{Ds:List Deed}{w:List Th},DW w->L5 w Ds->w.length+Ds.length < 60->((T3 w Ds).map (·.1)).Perm (stN (w.map (·.1)) Ds):=by
 have go:∀{Ds:List Deed}{w:List Th}{so:List Str},DW w->(w.map (·.1)).Perm so->L5 w Ds->w.length+Ds.length < 60->((T3 w Ds).map (·.1)).Perm (stN so Ds):=by
   intro Ds
   induction Ds with
   | nil=>intro w so _ p _ _;exact p
   | cons D r ih=>
     intro w so hw p hb hl
     have hl':w.length+r.length+1 < 60:=by simpa [Nat.add_assoc] using hl
     obtain⟨f1,f2⟩:=UY hw hb.1 (by omega)
     have:stN so (D::r)=stN (B6 so D) r:=by unfold stN;rw[List.foldl_cons,A0s]
     rw[this]
     exact ih f1 ((cA hb.1).trans (Z9 p D)) hb.2 (by omega)
 intro Ds w hw hb hl
 exact go hw (List.Perm.refl _) hb hl
end DL
namespace DL
open PySem PySem.Spec L2
section
variable {w:List Th}{ls:List Ln}{k n:Nat}{D:Deed}{h:Str}{so sp:List Str}{M:Own}{Q:DS->Own->Prop}
theorem N2 (ls:List Ln) (k:Nat):dsL (ls.take k)=(dsL ls).take k:=b8Q ..
abbrev thX (w:List Th) (e:Option Str):List DS:=[.d (wD w),.d (WM e)]
def HG:FSp:=⟨fun xs M=>∃(w:List Th) (e:Option Str),xs=thX w e/\(∀t∈w,AG t.1)/\∀x,e=some x->AG x/\x∉T4 w,fun xs M y M'=>y = .d .none/\M'=M⟩
theorem WO {e:Option Str}(h1:∀t∈w,AG t.1) (h2:∀x,e=some x->AG x/\x∉T4 w) (q:Q (.d .none) M):(thX w e).length=2/\HG.pre (thX w e) M/\∀x M',HG.post (thX w e) M x M'->Q x M':=
 ⟨rfl,⟨w,e,rfl,h1,h2⟩,fun x M' hh=>by obtain⟨rfl,rfl⟩:=hh;exact q⟩
abbrev ZL (W w:List Th) (ls:List Ln) (h:Str) (D:Deed):List DS:=[.d (wD W),.d (AV w ls),.d (.str h),.d D.d]
def JT:FSp:=⟨fun xs M=>∃(W w:List Th) (ls:List Ln) (h:Str) (D:Deed),xs=ZL W w ls h D/\AG h/\goodB w ls/\goD W D/\(∀t∈w,AG t.1)/\∀x,D.made=some x->x∉T4 w/\∀j,mkN (dsL ls) j≠some x,
 fun xs M y M'=>∀(W w:List Th) (ls:List Ln) (h:Str) (D:Deed),xs=ZL W w ls h D->y = .d (wD (JN W D))/\M'=M⟩
theorem ZM {W:List Th}(h1:AG h) (h2:goodB w ls) (h3:goD W D) (h4:∀t∈w,AG t.1) (h5:∀x,D.made=some x->x∉T4 w/\∀j,mkN (dsL ls) j≠some x) (q:Q (.d (wD (JN W D))) M):(ZL W w ls h D).length=4/\JT.pre (ZL W w ls h D) M/\∀x M',JT.post (ZL W w ls h D) M x M'->Q x M':=
 ⟨rfl,⟨W,w,ls,h,D,rfl,h1,h2,h3,h4,h5⟩,fun x M' hh=>by obtain⟨rfl,rfl⟩:=hh W w ls h D rfl;exact q⟩
theorem A0t (hg:goodB w ls) (h:∀x,D.made=some x->∀j,mkN (dsL ls) j≠some x):(D.made.elim false fun k=>(CL (mkL (dsL ls) 0) k).isSome)=false:=by
 cases e:D.made with
 | none=>rfl
 | some x=>
   rcases fD (dsL ls) 0 hg.fresh.one x with ⟨a,_⟩ | ⟨j,a,_⟩
   · show(CL (mkL (dsL ls) 0) x).isSome=false
     rw[a];rfl
   · exact absurd a (h x e j)
theorem nK (e:Option Str):WM e=e.elim .none .str:=by cases e <;> rfl
end
end DL
namespace DL
open PySem PySem.Spec L2
section
variable {S:List Str}{Ds:List Deed}{D:Deed}{k:Nat}
theorem JU (Ds:List Deed) (k j:Nat):(Ds.take k)[j]?=if j < k then Ds[j]? else none:=by
 rw[List.getElem?_take]
theorem II {x:Str}{j:Nat}(h:mkN (Ds.take k) j=some x):mkN Ds j=some x/\j < k:=by
 unfold mkN at h ⊢
 rw[JU] at h
 split at h
 · exact⟨h,by assumption⟩
 · cases h
theorem rH {x:Str}{j:Nat}(h:enN (Ds.take k) j=some x):enN Ds j=some x/\j < k:=by
 unfold enN at h ⊢
 rw[JU] at h
 split at h
 · exact⟨h,by assumption⟩
 · cases h
theorem rJ {x:Str}{j:Nat}(h:x∈wnN (Ds.take k) j):x∈wnN Ds j/\j < k:=by
 unfold wnN at h ⊢
 rw[JU] at h
 split at h
 · rename_i q
   split at q
   · rename_i hj
     rw[q];exact⟨h,hj⟩
   · cases q
 · cases h
theorem A0u {j:Nat}(h:j < k):mkN (Ds.take k) j=mkN Ds j/\enN (Ds.take k) j=enN Ds j/\wnN (Ds.take k) j=wnN Ds j:=by
 unfold mkN enN wnN;rw[JU,if_pos h];exact⟨rfl,rfl,rfl⟩
theorem WP (h:BkD S Ds) (k:Nat):BkD S (Ds.take k):=fun j=>by
 obtain⟨a,b⟩:=h j
 refine⟨fun x e=>?_,fun x hx=>?_⟩
 · obtain⟨e,hj⟩:=II e
   exact⟨(a x e).1,fun i hi q=>(a x e).2 i hi (II q).1⟩
 · obtain⟨hx,hj⟩:=rJ hx
   exact⟨(b x hx).1.imp id fun⟨i,hi,e⟩=>⟨i,hi,by rw[(A0u (by omega)).1];exact e⟩,fun i hi q=>(b x hx).2 i hi (rH q).1⟩
theorem t0 (h:BkD S Ds):∀k,k<=Ds.length->∃kn,StB S (stN S (Ds.take k)) kn (Ds.take k)
 | 0,_=>⟨S,⟨fun k=>by unfold mkN wnN;simp,fun x=>by simp[mkN],fun x=>by simp[enN,stN]⟩⟩
 | k+1,hk=>by
   obtain⟨kn,st⟩:=t0 h k (by omega)
   have e:Ds.take (k+1)=Ds.take k++[Ds[k]]:=by rw[a4X,zV (by omega)];rfl
   have hb:=WP h (k+1)
   rw[e] at hb ⊢
   obtain⟨_,hm,hw⟩:=WN.mp hb
   rw[nJ]
   refine⟨_,st.step (S8.mpr ⟨fun x ex q=>?_,fun x hx=>(st.st_ x).mpr ⟨(st.kn_ x).mpr (hw x hx).1,(hw x hx).2⟩⟩)⟩
   rcases (st.kn_ x).mp q with c | ⟨j,c⟩
   · exact(hm x ex).1 c
   · exact(hm x ex).2 j c
end
end DL
namespace DL
open PySem PySem.Spec L2
theorem xB {S:List Str}{Ds:List Deed}{k:Nat}{D:Deed}(h:BkD S Ds) (hD:Ds[k]?=some D) (hr:D.real):BA (stN S (Ds.take k)) D=none:=by
 have hk:k < Ds.length:=(yT.mp hD).1
 obtain⟨kn,st⟩:=t0 h k (by omega)
 have e:Ds.take (k+1)=Ds.take k++[D]:=by rw[a4X,hD];rfl
 have hb:=WP h (k+1)
 rw[e] at hb
 obtain⟨_,hm,hw⟩:=WN.mp hb
 refine CS fun n hn=>⟨fun q e=>?_,fun q=>(st.st_ n).mpr ?_⟩
 · rcases (st.kn_ n).mp ((st.st_ n).mp q).1 with c | ⟨j,c⟩
   · exact(hm n e).1 c
   · exact(hm n e).2 j c
 · have hx:n∈JS D:=by rw[← fH hr];exact yL.mpr ⟨hn,decide_eq_true q⟩
   exact⟨(st.kn_ n).mpr (hw n hx).1,(hw n hx).2⟩
theorem rK {w:List Th}{Ds:List Deed}(h:BkD (T4 w) Ds) (hr:∀D∈Ds,D.real) (hw:DW w) (hl:w.length+Ds.length < 60):L5 w Ds:=by
 have key:∀k,k<=Ds.length->L5 w (Ds.take k):=by
   intro k
   induction k with
   | zero=>intro _;trivial
   | succ k ih=>
     intro hk
     have hD:Ds[k]?=some Ds[k]:=zV (by omega)
     have hb:=ih (by omega)
     have hlt:(Ds.take k).length<=k:=by rw[a2Z];omega
     have r:rowP w (Ds.take k):=⟨hw,hb,by omega⟩
     obtain⟨f1,f2⟩:=n9 r
     have hrD:=hr _ (yN hD)
     rw[a4X,hD]
     refine UX hb ⟨⟨f1.1.nodup,by omega⟩,hrD,?_⟩
     rw[c9 (rG hw hb (by omega))]
     exact xB h hD hrD
 have:=key _ (zR _)
 rwa [a2K] at this
theorem cK {w:List Th}(h:DW w):MP (wD w)=true:=by
 show((w.map thD).all BD&&PH ((w.map thD).map nm0))=true
 rw[dQ,(Y9 _).mpr h.1,Bool.and_true,a6W]
 intro d hd
 obtain⟨t,ht,rfl⟩:=zL.mp hd
 obtain⟨h1,h2,h3⟩:=h.2 t ht
 show(BK (.str t.1)&&(decide (0<=t.2.1)&&decide (t.2.1<=999))&&true)=true
 rw[QW h1,decide_eq_true h2,decide_eq_true h3];rfl
theorem nL {w:List Th}(h:DW w) (hl:w.length<=60):okW (wD w):=⟨by rw[zX];omega,fun d hd=>by
 obtain⟨t,ht,rfl⟩:=zL.mp hd
 exact pO (h.2 t ht).1⟩
structure CB (w:List Th) (ls:List Ln):Prop where
 good:goodB w ls
 fine:DW w
 bk:BkD (T4 w) (dsL ls)
 len:w.length+ls.length < 60
section
variable {w:List Th}{ls:List Ln}{M:Own}{Q:DS->Own->Prop}
theorem CB.book (h:CB w ls):L5 w (dsL ls):=rK h.bk (fun D hD=>by obtain⟨l,hl,rfl⟩:=zL.mp hD;exact h.good.real l hl) h.fine (by rw[zX];exact h.len)
theorem V7 (hg:goodB w ls) (k:Nat):goodB w (ls.take k):=by
 refine⟨⟨fun i j x a b=>?_,fun j m x a b=>?_⟩,fun l hl=>hg.real l (a7J hl),by rw[a2Z];have:=hg.few;omega,fun l hl=>hg.hands l (a7J hl)⟩
 · rw[N2] at a b
   exact hg.fresh.one i j x (II a).1 (II b).1
 · rw[N2] at a b
   refine hg.fresh.bef j m x (II a).1 ?_
   unfold OT at b ⊢
   rw[JU] at b
   split at b
   · rename_i q
     split at q
     · rw[q];exact b
     · cases q
   · cases b
theorem CB.take (h:CB w ls) (k:Nat):CB w (ls.take k):=⟨V7 h.good k,h.fine,by rw[N2];exact WP h.bk k,by have:=h.len;rw[a2Z];omega⟩
theorem CB.new (h:CB w ls) {k:Nat}{l:Ln}(hl:ls[k]?=some l):∀x,l.2.made=some x->x∉T4 w/\∀j,mkN (dsL (ls.take k)) j≠some x:=fun x e=>by
 have hm:mkN (dsL ls) k=some x:=by unfold mkN;rw[zF,hl];exact e
 obtain⟨a,b⟩:=(h.bk k).1 x hm
 refine⟨a,fun j q=>?_⟩
 rw[N2] at q
 exact b j (II q).2 (II q).1
def HH:FSp:=⟨fun xs M=>∃(w:List Th) (ls:List Ln),xs=[.d (AV w ls)]/\CB w ls,fun xs M y M'=>(∀d,xs=[.d d]->y = .d d)/\M'=M⟩
theorem WQ (h:CB w ls) (q:Q (.d (AV w ls)) M):[DS.d (AV w ls)].length=1/\HH.pre [.d (AV w ls)] M/\∀x M',HH.post [.d (AV w ls)] M x M'->Q x M':=
 ⟨rfl,⟨w,ls,rfl,h⟩,fun x M' hh=>by obtain⟨a,rfl⟩:=hh;rw[a _ rfl];exact q⟩
end
end DL
namespace DL
open PySem PySem.Spec L2
section
variable {M:Own}{Q:DS->Own->Prop}{w:List Th}{ls:List Ln}{D:Deed}
structure B33 (w:List Th) (ls:List Ln):Prop where
 cb:CB w ls
 five:w.length<=5
def bkX (h:Int) (cs:List Int):List DS:=[.d (.int h),.d (.list (cs.map .int))]
theorem rL {h h':Int}{cs cs':List Int}(e:bkX h cs=bkX h' cs'):h=h'/\cs=cs':=by
 unfold bkX at e
 simp only[List.cons.injEq,DS.d.injEq,PyData.int.injEq,PyData.list.injEq,and_true] at e
 exact⟨e.1,(List.map_inj_right (fun a b h=>PyData.int.inj h)).mp e.2⟩
theorem B33.of {so0 sp0 so' sp:List Str}{cs:List Int}(hw:DW w) (hp:(T4 w).Perm so0) (h5:w.length<=5) (hn:namesOK (so0++sp0)) (hq:lnQ so0 sp0 cs ls so' sp) (hc:cs.length<=40):B33 w ls:=by
 have q0:lnQ so' sp [] [] so' sp:=⟨trivial,rfl,by simp,by simp,hq.2.2.2.2⟩
 have hfew:=hq.2.2.2.1
 have hg:goodB w ls:=by
   have:=cJ (w:=w) hn hq (.refl _) q0 (by simp;omega)
   rwa [a9V] at this
 have hb:BkD (T4 w) (dsL ls):=by
   have:=nH (S:=T4 w) (fun x=>hp.mem_iff) hn hq (.refl _) q0
   rwa [a9V] at this
 exact⟨⟨hg,hw,hb,by omega⟩,h5⟩
end
end DL
namespace DL
open PySem PySem.Spec L2 PySem.Builtin.Str PySem.StrLaws
theorem nM {x:Str}{a b:List Nat}{c d:Nat}(hx:x.cps.toList=a++c::d::b) (ha:c∉a):a0J x ⟨#[c,d]⟩=(⟨⟨a⟩⟩,⟨#[c,d]⟩,⟨⟨b⟩⟩):=by
 have hl:x.length=a.length+2+b.length:=by show x.cps.size=_;rw[← a0K,hx];simp;omega
 have hA:∀i,At x ⟨#[c,d]⟩ x.length i↔x.cps.toList[i]?=some c/\x.cps.toList[i+1]?=some d:=fun i=>W0
 have at0:At x ⟨#[c,d]⟩ x.length a.length:=(hA a.length).mpr (by rw[hx];constructor <;> simp)
 rcases occ_head x ⟨#[c,d]⟩ 1 (zR _) with ⟨_,h⟩ | ⟨i,r,e,h1,h2⟩
 · exact absurd at0 (h _)
 · have hi:i=a.length:=by
     refine Nat.le_antisymm (a7X fun h=>h2 _ h at0) (a7X fun h=>?_)
     have:=((hA i).mp h1).1
     rw[hx,yQ h] at this
     exact ha (yN this)
   subst hi
   unfold a0J
   rw[e]
   show(strSub x 0 a.length,(⟨#[c,d]⟩:Str),strSub x (a.length+2) x.length)=_
   have e1:strSub x 0 a.length=⟨⟨a⟩⟩:=C7 (by rw[CP,hx,b1Z,Nat.sub_zero,List.take_left])
   have e2:strSub x (a.length+2) x.length=⟨⟨b⟩⟩:=C7 (by
     rw[CP,hx,hl,show a++c::d::b=(a++[c,d])++b by simp,show a.length+2=(a++[c,d]).length by simp,b6J,a4Z,a2K])
   rw[e1,e2]
theorem t7:a0Q "\n"=⟨#[10]⟩:=by decide +kernel
theorem t8:a0Q ": "=⟨#[58,32]⟩:=by decide +kernel
theorem WR:(a0Q "start ").length=6:=by decide +kernel
def lnS (l:Ln):Str:=l.1++a0Q ": " ++ dS l.2
def DX (w:List Th) (ls:List Ln):List Str:=(a0Q "start " ++ wsS w)::ls.map lnS
def bkS (w:List Th) (ls:List Ln):Str:=a7K (a0Q "\n") (DX w ls)
structure T75 (w:List Th) (ls:List Ln):Prop where
 good:goodW w
 few:w.length<=25
 line:∀l∈ls,AG l.1/\l.2.real/\l.2.fit
 len:ls.length<=40
theorem N3 {D:Deed}(h:D.real) (hf:D.fit):(∀c∈(dS D).cps.toList,c < 128/\c≠10)/\(dS D).cps.toList.length<=110:=by
 have hp:=JQ h hf
 have e:(dS D).cps.toList=JP [32] ((D.list.map BU).map (·.cps.toList)):=by
   unfold dS;rw[RZ];rw[sY]
 have hpart:∀p∈(D.list.map BU).map (·.cps.toList),∀c∈p,c < 128/\c≠10:=fun p hp2 c hc=>by
   obtain⟨s,hs,rfl⟩:=zL.mp hp2
   obtain⟨d,hd,rfl⟩:=zL.mp hs
   rcases hp d hd with ⟨s,rfl,h1,h2⟩ | ⟨n,rfl,hb⟩
   · have:=h2 c hc
     unfold CW at this
     rw[a0V,decide_eq_true_iff,decide_eq_true_iff] at this
     omega
   · have:=(B1 hb).1 c hc
     omega
 constructor
 · intro c hc
   rw[e] at hc
   rcases N0 hc with q | ⟨p,hp1,hp2⟩
   · have:c=32:=by simpa using q
     omega
   · exact hpart p hp1 c hp2
 · rw[e]
   have:=N1 (s:=[32]) (k:=19) (by simp) (ps:=(D.list.map BU).map (·.cps.toList)) fun p hp2=>by
     obtain⟨s,hs,rfl⟩:=zL.mp hp2
     obtain⟨d,hd,rfl⟩:=zL.mp hs
     exact(S3 (hp d hd)).1
   rw[zX,zX] at this
   have:=HE D
   omega
theorem ZN (l:Ln):(lnS l).cps.toList=l.1.cps.toList++58::32::(dS l.2).cps.toList:=by
 unfold lnS
 rw[AY,AY,t8]
 simp
theorem V8 {l:Ln}(h:AG l.1) (hr:l.2.real) (hf:l.2.fit):(∀c∈(lnS l).cps.toList,c < 128/\c≠10)/\(lnS l).cps.toList.length<=120:=by
 obtain⟨h1,h2⟩:=N3 hr hf
 rw[ZN]
 constructor
 · intro c hc
   rcases yW.mp hc with q | q
   · have:=h.2.2 c q
     unfold CW at this
     rw[a0V,decide_eq_true_iff,decide_eq_true_iff] at this
     omega
   · rcases yX.mp q with rfl | q
     · omega
     · rcases yX.mp q with rfl | q
       · omega
       · exact h1 c q
 · have:l.1.cps.toList.length<=8:=by have:=h.2.1;simpa using this
   rw[yY,yR,yR]
   omega
theorem SA {w:List Th}(h:goodW w) (hl:w.length<=25):(∀c∈(wsS w).cps.toList,c < 128/\c≠10)/\(wsS w).cps.toList.length<=2000:=by
 by_cases hne:w=[]
 · subst hne
   have e:(wsS []).cps.toList=[45]:=by decide +kernel
   rw[e]
   exact⟨fun c hc=>by have:c=45:=(by simpa using hc);omega,by decide⟩
 · rw[RD hne,RZ,W3]
   constructor
   · intro c hc
     rcases N0 hc with q | ⟨p,hp1,hp2⟩
     · have:c=44∨c=32:=by simpa using q
       omega
     · obtain⟨s,hs,rfl⟩:=zL.mp hp1
       obtain⟨t,ht,rfl⟩:=zL.mp hs
       rw[GZ] at hp2
       have gt:=h.th t ht
       rcases yW.mp hp2 with q | q
       · have:=gt.1.2.2 c q
         unfold CW at this
         rw[a0V,decide_eq_true_iff,decide_eq_true_iff] at this
         omega
       · rcases yX.mp q with rfl | q
         · omega
         · rcases yW.mp q with q | q
           · have:=(B1 gt.place).1 c q;omega
           · rcases yX.mp q with rfl | q
             · omega
             · have:=(B1 gt.count).1 c q;omega
   · have:=N1 (s:=[44,32]) (k:=48) (by simp) (ps:=(w.map thS).map (·.cps.toList)) fun p hp=>by
       obtain⟨s,hs,rfl⟩:=zL.mp hp
       obtain⟨t,ht,rfl⟩:=zL.mp hs
       have:=(FL (h.th t ht)).2
       show(thS t).cps.toList.length<=48
       rw[a0K];exact this
     rw[zX,zX] at this
     have e:(⟨#[44,32]⟩:Str).cps.toList=[44,32]:=rfl
     rw[e]
     omega
theorem OU {w:List Th}(h:goodW w) (hl:w.length<=25):(∀c∈(a0Q "start " ++ wsS w).cps.toList,c < 128/\c≠10)/\(a0Q "start " ++ wsS w).cps.toList.length<=2010:=by
 obtain⟨h1,h2⟩:=SA h hl
 have e:(a0Q "start ").cps.toList=[115,116,97,114,116,32]:=by decide +kernel
 rw[AY,e]
 constructor
 · intro c hc
   rcases yW.mp hc with q | q
   · have:c=115∨c=116∨c=97∨c=114∨c=116∨c=32:=by simpa using q
     omega
   · exact h1 c q
 · rw[yY];show 6+_<=2010;omega
section
variable {w:List Th}{ls:List Ln}
theorem IJ (h:T75 w ls):∀r∈DX w ls,(∀c∈r.cps.toList,c < 128/\c≠10)/\r.cps.toList.length<=2010:=fun r hr=>by
 unfold DX at hr
 rcases yX.mp hr with rfl | q
 · exact OU h.good h.few
 · obtain⟨l,hl,rfl⟩:=zL.mp q
   obtain⟨a,b,c⟩:=h.line l hl
   have:=V8 a b c
   exact⟨this.1,by omega⟩
theorem ZO (h:T75 w ls):a3V (bkS w ls) (a0Q "\n")=DX w ls:=by
 unfold bkS
 rw[t7]
 exact V1 (by decide) (by unfold DX;simp) fun r hr hc=>((IJ h r hr).1 10 hc).2 rfl
theorem ZP (h:T75 w ls):(∀c∈(bkS w ls).cps.toList,c < 128)/\(bkS w ls).cps.toList.length<=90000:=by
 have e:(bkS w ls).cps.toList=JP [10] ((DX w ls).map (·.cps.toList)):=by unfold bkS;rw[RZ,t7]
 rw[e]
 constructor
 · intro c hc
   rcases N0 hc with q | ⟨p,hp1,hp2⟩
   · have:c=10:=by simpa using q
     omega
   · obtain⟨s,hs,rfl⟩:=zL.mp hp1
     exact((IJ h s hs).1 c hp2).1
 · have:=N1 (s:=[10]) (k:=2010) (by simp) (ps:=(DX w ls).map (·.cps.toList)) fun p hp=>by
     obtain⟨s,hs,rfl⟩:=zL.mp hp
     exact(IJ h s hs).2
   have hl:=h.len
   rw[zX] at this
   have e2:(DX w ls).length=ls.length+1:=by unfold DX;simp
   rw[e2] at this
   omega
theorem fJ (h:T75 w ls):((DX w ls).map (·.length)).sum+(DX w ls).length*(a0Q "\n").length<=16777216:=by
 have h1:((DX w ls).map (·.length)).sum<=(DX w ls).length*2010:=WI _ _ fun r hr=>by
   have:=(IJ h r hr).2
   rw[a0K] at this;exact this
 have e2:(DX w ls).length=ls.length+1:=by unfold DX;simp
 have hl:=h.len
 rw[show(a0Q "\n").length=1 by decide +kernel]
 rw[e2] at h1 ⊢
 omega
theorem fK {l:Ln}(h:AG l.1):a0J (lnS l) (a0Q ": ")=(l.1,a0Q ": ", dS l.2):=by
 rw[t8]
 exact nM (ZN l) fun q=>by
   have:=h.2.2 58 q
   revert this;decide
end
end DL
namespace DL
open PySem PySem.Spec L2 PySem.Builtin.Str PySem.StrLaws
section
variable {w:List Th}{ls:List Ln}{M:Own}{Q:DS->Own->Prop}
structure B75 (w:List Th) (ls:List Ln):Prop where
 cb:CB w ls
 good:goodW w
 five:w.length<=5
 fit:∀l∈ls,l.2.fit
 len:ls.length<=40
theorem B75.take (h:B75 w ls) (k:Nat):B75 w (ls.take k):=⟨h.cb.take k,h.good,h.five,fun l hl=>h.fit l (a7J hl),by have:=h.len;rw[a2Z];omega⟩
theorem B75.few (h:B75 w ls):w.length<=25:=zN h.five (by decide)
theorem B75.t (h:B75 w ls):T75 w ls:=⟨h.good,h.few,fun l hl=>⟨h.cb.good.hands l hl,h.cb.good.real l hl,h.fit l hl⟩,h.len⟩
def JV:FSp:=⟨fun xs M=>∃(p:Addr) (o:MO) (so sp:List Str),xs=[.loc p,.d (B2 so),.d (B2 sp)]/\M p=some o/\EE o/\namesOK (so++sp)/\(so≠[]∨sp≠[]),
 fun xs M y M'=>∀(p:Addr) (so sp:List Str),xs=[.loc p,.d (B2 so),.d (B2 sp)]->∃(D:Deed) (o:MO),y = .d D.d/\D.fit/\D.real/\BA so D=none/\(∀n,D.made=some n->sp.head?=some n)/\EE o/\M'=M.put p o⟩
theorem OV {p:Addr}{o:MO}{so sp:List Str}(m:M p=some o) (ho:EE o) (hn:namesOK (so++sp)) (he:so≠[]∨sp≠[]) (q:∀(D:Deed) (o':MO),D.fit->D.real->BA so D=none->(∀n,D.made=some n->sp.head?=some n)->EE o'->Q (.d D.d) (M.put p o')) :
   [DS.loc p,.d (B2 so),.d (B2 sp)].length=3/\JV.pre [.loc p,.d (B2 so),.d (B2 sp)] M/\∀x M',JV.post [.loc p,.d (B2 so),.d (B2 sp)] M x M'->Q x M':=
 ⟨rfl,⟨p,o,so,sp,rfl,m,ho,hn,he⟩,fun x M' h=>by obtain⟨D,o',rfl,h0,h1,h2,h3,h4,rfl⟩:=h p so sp rfl;exact q D o' h0 h1 h2 h3 h4⟩
def HI:FSp:=⟨fun xs M=>∃(p:Addr) (o:MO) (ys:List Str) (n:Nat),xs=[.loc p,.d (B2 ys),.d (.int n)]/\M p=some o/\EE o/\namesOK ys/\n<=ys.length,
 fun xs M y M'=>∀(p:Addr) (ys:List Str) (n:Nat),xs=[.loc p,.d (B2 ys),.d (.int n)]->∃(w:List Th) (o:MO),y = .d (wD w)/\goodW w/\(w.map (·.1)).Perm (ys.take n)/\EE o/\M'=M.put p o⟩
theorem WS {p:Addr}{o:MO}{ys:List Str}{n:Nat}(m:M p=some o) (ho:EE o) (hy:namesOK ys) (hn:n<=ys.length) (q:∀(w:List Th) (o':MO),goodW w->(w.map (·.1)).Perm (ys.take n)->EE o'->Q (.d (wD w)) (M.put p o')) :
   [DS.loc p,.d (B2 ys),.d (.int n)].length=3/\HI.pre [.loc p,.d (B2 ys),.d (.int n)] M/\∀x M',HI.post [.loc p,.d (B2 ys),.d (.int n)] M x M'->Q x M':=
 ⟨rfl,⟨p,o,ys,n,rfl,m,ho,hy,hn⟩,fun x M' h=>by obtain⟨w,o',rfl,h1,h2,h3,rfl⟩:=h p ys n rfl;exact q w o' h1 h2 h3⟩
theorem iS (h:goodW w):DW w:=⟨h.1,fun t ht=>⟨(h.2 t ht).1,(h.2 t ht).2.1,(h.2 t ht).2.2.1⟩⟩
def JW:FSp:=⟨fun xs M=>∃(h:Int) (cs:List Int),xs=bkX h cs/\xJ h<=2 ^ 21/\(∀c∈cs,xJ c<=2 ^ 21)/\cs.length<=40,fun xs M y M'=>∀(h:Int) (cs:List Int),xs=bkX h cs->M'=M/\∃(w:List Th) (ls:List Ln),y = .d (AV w ls)/\B75 w ls⟩
theorem ZQ {h:Int}{cs:List Int}(h1:xJ h<=2 ^ 21) (h2:∀c∈cs,xJ c<=2 ^ 21) (h3:cs.length<=40) (q:∀(w:List Th) (ls:List Ln),B75 w ls->Q (.d (AV w ls)) M):(bkX h cs).length=2/\JW.pre (bkX h cs) M/\∀x M',JW.post (bkX h cs) M x M'->Q x M':=
 ⟨rfl,⟨h,cs,rfl,h1,h2,h3⟩,fun x M' hh=>by obtain⟨rfl,w,ls,rfl,a⟩:=hh h cs rfl;exact q w ls a⟩
def O8:FSp:=fn1 (fun d=>∃D:Deed,d = .str (dS D)/\D.real/\D.fit) fun d=>r9 (rdD d)
def rsF:PyData->PyData | .str s=>wsP (.str (a1X s (some 6) none)) | d=>d
def LZ:FSp:=fn1 (fun d=>∃w,d = .str (a0Q "start " ++ wsS w)/\goodW w/\w.length<=25) rsF
theorem fL:(a0Q "start ").cps.toList=[115,116,97,114,116,32]:=by decide +kernel
theorem OW (s:Str):a1X (a0Q "start " ++ s) (some 6) none=s:=C7 (by
 rw[show(6:Int)=((6:Nat):Int) from rfl,E1,AY,fL];rfl)
theorem WT (s:Str):b1J (a0Q "start " ++ s) (a0Q "start ")=true:=by
 unfold b1J
 rw[a0V,decide_eq_true_iff]
 constructor
 · rw[CU];omega
 · rw[subAt_eq,AY,WR,fL];rfl
theorem SB (h:goodW w):rsF (.str (a0Q "start " ++ wsS w))=wD w:=by
 show wsP (.str (a1X _ _ _))=_
 rw[OW,e9 h]
def rlF:PyData->PyData | .str s=>.tuple [.str (a0J s (a0Q ": ")).1,r9 (rdD (.str (a0J s (a0Q ": ")).2.2))] | d=>d
def O9:FSp:=fn1 (fun d=>∃l:Ln,d = .str (lnS l)/\AG l.1/\l.2.real/\l.2.fit) rlF
theorem fM {l:Ln}(h1:AG l.1) (h2:l.2.real) (h3:l.2.fit):rlF (.str (lnS l))=BS l:=by
 show a3J [.str (a0J _ _).1,r9 (rdD (.str (a0J _ _).2.2))]=_
 rw[fK h1,n4 h2 h3];rfl
def rbF:PyData->PyData | .str s=>.tuple [rsF (((a3V s (a0Q "\n")).map .str).headD .none),.tuple (((a3V s (a0Q "\n")).map a0X).tail.map rlF)] | d=>d
def OB:FSp:=fn1 (fun d=>∃(w:List Th) (ls:List Ln),d = .str (bkS w ls)/\B75 w ls) rbF
theorem nN (h:T75 w ls):((ls.map lnS).map a0X).map rlF=ls.map BS:=by
 rw[zD,zD]
 exact yM fun l hl=>by obtain⟨a,b,c⟩:=h.line l hl;exact fM a b c
theorem fN (h:T75 w ls):rbF (.str (bkS w ls))=AV w ls:=by
 show a3J [rsF (((a3V _ _).map .str).headD .none),.tuple (((a3V _ _).map a0X).tail.map rlF)]=_
 rw[ZO h]
 show a3J [rsF (.str (a0Q "start " ++ wsS w)),.tuple (((ls.map lnS).map a0X).map rlF)]=_
 rw[SB h.good,nN h];rfl
def DD:FSp:=⟨fun xs M=>∃(w:List Th) (ls:List Ln),xs=[.d (AV w ls)]/\B75 w ls,fun xs M y M'=>∀(w:List Th) (ls:List Ln),xs=[.d (AV w ls)]->y = .d (.str (bkS w ls))/\M'=M⟩
theorem JX (h:B75 w ls) (q:Q (.d (.str (bkS w ls))) M):[DS.d (AV w ls)].length=1/\DD.pre [.d (AV w ls)] M/\∀x M',DD.post [.d (AV w ls)] M x M'->Q x M':=
 ⟨rfl,⟨w,ls,rfl,h⟩,fun x M' hh=>by obtain⟨rfl,rfl⟩:=hh w ls rfl;exact q⟩
theorem SD (h:B75 w ls) {M1:Own}(hs:M.Sub M1):∃M2:Own,M2.Sub M1/\DD.post [.d (AV w ls)] M (.d (.str (bkS w ls))) M2:=⟨M,hs,fun w' ls' e=>by
 simp only[List.cons.injEq,DS.d.injEq,and_true] at e
 obtain⟨e3,e4⟩:=iO e
 subst e4
 obtain rfl:=WB e3
 exact⟨rfl,rfl⟩⟩
def lnF:PyData->PyData | .tuple [.str h,d]=>(match fA d with | .str s=>.str (h++a0Q ": " ++ s) | d=>d) | d=>d
theorem SE (l:Ln):lnF (BS l) = .str (lnS l):=by
 show(match fA l.2.d with | .str s=>a0X (l.1++a0Q ": " ++ s) | d=>d)=_
 rw[WH];rfl
theorem fQ (ls:List Ln):((ls.map BS).filter fun _=>true).map lnF=(ls.map lnS).map .str:=by
 rw[List.filter_eq_self.mpr (fun _ _=>rfl),zD,zD]
 exact yM fun l _=>SE l
def A0v:PyData->PyData | .tuple [a,b]=>EX a b | d=>d
theorem nO (f:Str) (ps:List Str):((F6 (AK f) (ps.map .str)).filter fun _=>true).map A0v=S0 f ps:=by
 rw[List.filter_eq_self.mpr (fun _ _=>rfl)]
 unfold F6 S0
 rw[zD];rfl
theorem JY {c:Nat}(h:c < 128):zH (.str ⟨#[c]⟩)=true:=HV fun d hd=>by
 have:d=c:=by simpa using hd
 rw[this];exact h
def KSg (q:PyData×PyData):Prop:=(q.1 = .str ⟨#[110]⟩/\∃s,q.2 = .str s)∨((q.1 = .str ⟨#[112]⟩∨q.1 = .str ⟨#[107]⟩)/\∃n,big n/\q.2 = .str (AI n))
theorem iT {D:Deed}(h:D.real) (hf:D.fit):∀q∈(AK D.form).zip ((D.list.map BU).tail.map a0X),KSg q:=by
 obtain⟨h1,h2,h3⟩:=h
 have nn:∀s:Str,KSg (.str ⟨#[110]⟩,.str s):=fun s=>.inl ⟨rfl,s,rfl⟩
 have pp:∀n:Int,big n->KSg (.str ⟨#[112]⟩,.str (AI n)):=fun n hb=>.inr ⟨.inl rfl,n,hb,rfl⟩
 have kk:∀n:Int,big n->KSg (.str ⟨#[107]⟩,.str (AI n)):=fun n hb=>.inr ⟨.inr rfl,n,hb,rfl⟩
 have g:∀(s:Str) (l:List Nat),s.cps.toList=l->AK s=l.map fun c=>.str ⟨#[c]⟩:=fun s l e=>by unfold AK;rw[e]
 cases D with
 | put x p k=>
   rw[g (Deed.form (.put x p k)) [110,112,107] (by show(a0Q "npk").cps.toList=_;decide +kernel)]
   show ∀q∈[(a0X ⟨#[110]⟩,a0X x),(.str ⟨#[112]⟩,.str (AI p)),(.str ⟨#[107]⟩,.str (AI k))],KSg q
   simp only[a2J,xX,false_imp_iff,implies_true,and_true]
   exact⟨nn x,pp p (IH h3),kk k (IG hf)⟩
 | take x=>
   rw[g (Deed.form (.take x)) [110] (by show(a0Q "n").cps.toList=_;decide +kernel)]
   show ∀q∈[(a0X ⟨#[110]⟩,a0X x)],KSg q
   simp only[a2J,xX,false_imp_iff,implies_true,and_true]
   exact nn x
 | move x p=>
   rw[g (Deed.form (.move x p)) [110,112] (by show(a0Q "np").cps.toList=_;decide +kernel)]
   show ∀q∈[(a0X ⟨#[110]⟩,a0X x),(.str ⟨#[112]⟩,.str (AI p))],KSg q
   simp only[a2J,xX,false_imp_iff,implies_true,and_true]
   exact⟨nn x,pp p (IH h3)⟩
 | count x k=>
   rw[g (Deed.form (.count x k)) [110,107] (by show(a0Q "nk").cps.toList=_;decide +kernel)]
   show ∀q∈[(a0X ⟨#[110]⟩,a0X x),(.str ⟨#[107]⟩,.str (AI k))],KSg q
   simp only[a2J,xX,false_imp_iff,implies_true,and_true]
   exact⟨nn x,kk k (IG hf)⟩
 | name x y=>
   rw[g (Deed.form (.name x y)) [110,110] (by show(a0Q "nn").cps.toList=_;decide +kernel)]
   show ∀q∈[(a0X ⟨#[110]⟩,a0X x),(.str ⟨#[110]⟩,.str y)],KSg q
   simp only[a2J,xX,false_imp_iff,implies_true,and_true]
   exact⟨nn x,nn y⟩
 | split x y p k=>
   rw[g (Deed.form (.split x y p k)) [110,110,112,107] (by show(a0Q "nnpk").cps.toList=_;decide +kernel)]
   show ∀q∈[(a0X ⟨#[110]⟩,a0X x),(.str ⟨#[110]⟩,.str y),(.str ⟨#[112]⟩,.str (AI p)),(.str ⟨#[107]⟩,.str (AI k))],KSg q
   simp only[a2J,xX,false_imp_iff,implies_true,and_true]
   exact⟨nn x,nn y,pp p (IH h3),kk k (IG hf)⟩
 | join x y=>
   rw[g (Deed.form (.join x y)) [110,110] (by show(a0Q "nn").cps.toList=_;decide +kernel)]
   show ∀q∈[(a0X ⟨#[110]⟩,a0X x),(.str ⟨#[110]⟩,.str y)],KSg q
   simp only[a2J,xX,false_imp_iff,implies_true,and_true]
   exact⟨nn x,nn y⟩
theorem rM {K:Frg}{n:Nat}{g:TGs}{T:List Nat}(hg:kM g T):QM (eI K n g) T:=fun v σ H QQ ⟨a,xs,e,hs,hl,h⟩=>
 ⟨a,xs,e,hs,hl,hg.1 xs σ H _ _ (fun σ2 H2 ⟨h1,h2⟩=>h2 h1) (hg.2 xs σ H _ h)⟩
end
end DL
namespace DL
open PySem PySem.Spec L2
def FnIn (K:Frg) (n:Str) (st:Stmt):Prop:=∃(f:Addr) (oc:Value) (od:Option Addr) (kV dc pm:Value) (an:Option Addr) (cd ct:Value) (sl:Array (Option Value)),a1W K mainGlobals n=some (some (.ref f)) /\
 K.lookup f=some ⟨oc,od,.func (a9K n n (F5 st) (D4 st) (AA st) .none kV dc pm an cd ct),sl⟩/\b9Q K cd n=true/\b3X K (.ref f)=true
theorem rN {K:Frg}{n:Str}{st:Stmt}{f:Addr}{oc:Value}{od:Option Addr}{kV dc pm:Value}{an:Option Addr}{cd ct:Value}{sl:Array (Option Value)}(a:a1W K mainGlobals n=some (some (.ref f)))
   (l:K.lookup f=some ⟨oc,od,.func (a9K n n (F5 st) (D4 st) (AA st) .none kV dc pm an cd ct),sl⟩) (c:b9Q K cd n=true) (k:b3X K (.ref f)=true):FnIn K n st:=⟨f,oc,od,kV,dc,pm,an,cd,ct,sl,a,l,c,k⟩
structure FnAt (K:Frg) (mg:Str->Option Value) (n:Str) (st:Stmt) (f:Addr) (fd:FuncData):Prop where
 fn:Fun K n n st f fd
 mg_:mg n=some (.ref f)
 kp:b3X K (.ref f)=true
theorem FnIn.at {K:Frg}{n:Str}{st:Stmt}{h:Heap}{mg:Str->Option Value}(b:FnIn K n st) (X:K.In h) (G:h.Ns mainGlobals mg):∃f fd,FnAt K mg n st f fd:=
 let ⟨f,_,_,_,_,_,_,_,_,_,a,l,c,k⟩:=b
 ⟨f,_,uK l c k,a6V X G a,k⟩
section
variable {P:Program}{w:World}{K:Frg}{mg:Str->Option Value}{base:Heap}{n:Str}{st:Stmt}{f:Addr}{fd:FuncData}{k:Nat}{ps:List Str}
abbrev xC (n:Str) (st:Stmt) (ps:List Str):Prop:=∀(kV doc pm:Value) (an:Option Addr) (cdv ct:Value) (us:List Value),us.length=ps.length->bindArgs (a9K n n (F5 st) (D4 st) (AA st) .none kV doc pm an cdv ct) ⟨us,[]⟩=pure (ps.zip us)
theorem FnAt.has {S:FSp}(a:FnAt K mg n st f fd) (h:FnOk P w K mg base CX0 k f fd ps (spD K ps.length S)) (b:xC n st ps):Has P w K mg base n k ps S:=⟨f,fd,h,a.mg_,a.kp,a.fn.binds b⟩
end
end DL
namespace DL
open PySem PySem.Spec L2
abbrev IK:Stmt:=_root_.sT 4
abbrev GE:Stmt:=_root_.sT 6
abbrev IL:Stmt:=_root_.sT 7
abbrev HJ:Stmt:=_root_.sT 5
abbrev KQ:Stmt:=_root_.sT 11
abbrev WU:Stmt:=_root_.sT 13
abbrev IM:Stmt:=_root_.sT 14
abbrev HK:Stmt:=_root_.sT 12
abbrev KR:Stmt:=_root_.sT 15
abbrev N4:Stmt:=_root_.sT 8
abbrev IN:Stmt:=_root_.sT 24
abbrev FZ:Stmt:=_root_.sT 25
abbrev G0:Stmt:=_root_.sT 27
abbrev BG:Stmt:=_root_.sT 28
abbrev GF:Stmt:=_root_.sT 33
abbrev C8:Stmt:=_root_.sT 31
abbrev N5:Stmt:=_root_.sT 32
abbrev WV:Stmt:=_root_.sT 30
abbrev G1:Stmt:=_root_.sT 38
abbrev HL:Stmt:=_root_.sT 37
abbrev IO:Stmt:=_root_.sT 26
abbrev KS:Stmt:=_root_.sT 36
abbrev DH:Stmt:=_root_.sT 35
abbrev DJ:Stmt:=_root_.sT 43
abbrev B8:Stmt:=_root_.sT 45
abbrev FC:Stmt:=_root_.sT 44
abbrev FD:Stmt:=_root_.sT 53
abbrev FE:Stmt:=_root_.sT 55
abbrev DK:Stmt:=_root_.sT 52
abbrev FF:Stmt:=_root_.sT 54
abbrev EH:Stmt:=_root_.sT 47
abbrev EI:Stmt:=_root_.sT 48
abbrev FG:Stmt:=_root_.sT 61
abbrev GG:Stmt:=_root_.sT 62
abbrev EJ:Stmt:=_root_.sT 59
abbrev EK:Stmt:=_root_.sT 60
abbrev CJ:Stmt:=_root_.sT 66
abbrev FH:Stmt:=_root_.sT 64
abbrev GH:Stmt:=_root_.sT 65
abbrev EL:Stmt:=_root_.sT 67
abbrev CK:Stmt:=_root_.sT 68
abbrev DN:Stmt:=_root_.sT 69
abbrev GI:Stmt:=_root_.sT 70
abbrev BH:Stmt:=_root_.sT 71
abbrev BM:Stmt:=_root_.sT 72
abbrev EM:Stmt:=_root_.sT 73
abbrev fR:Stmt:=_root_.sT 74
abbrev vS (x:String) (t:Tok):Value:=.str (a0Q x) t
abbrev eS (P:Params) (x:String) (t:Tok) (v:Value):DictEntry:=⟨b0V P (a0Q x),.str (a0Q x) t,v⟩
abbrev hs (i:Nat):Stmt:=PySem.Challenge.pw_struckdeeds_k75_books_as_texts.main.body.getD i (.Pass ⟨0,0,0,0⟩)
abbrev fO (n q:String) (st:Stmt) (doc pm:Value) (c:Nat):Obj:=⟨.type "function", none,.func (a9K (a0Q n) (a0Q q) (F5 st) (D4 st) (AA st) .none .none doc pm none (.ref c) .none),#[]⟩
abbrev gO (n q:String) (st:Stmt):Obj:=⟨.none,none,.func (.mk (a0Q n) (a0Q q) (F5 st) (.stmts (D4 st)) (AA st) 0 [] .none .none .none .none none .none .none 0),#[]⟩
abbrev tO (vs:Array Value):Obj:=⟨.type "tuple", none,.seq vs 0,#[]⟩
abbrev kO (n q:String) (a b c:Tok) (l k f:Nat) (x1:Value) (t:Nat) (x2 x3 x4 x5:Value) (u l2:Nat) (d:Tok):Obj:=⟨.type "code", none,.fields #[vS n a,vS q b,vS "/claim/cut.py" c,.int l 0,.int k 0,.int 0 0,.int 0 0,.int f 0,x1,.bool true,.int t 0,x2,.none,x3,x4,x5,.int u 0,.int l2 0,vS "/claim/cut.py" d],#[]⟩
abbrev fP (n:String) (st:Stmt) (doc pm:Value) (c:Nat):Obj:=fO n n st doc pm c
abbrev gP (n:String) (st:Stmt):Obj:=gO n n st
abbrev kPz (n:String) (a b c:Tok) (l k f:Nat) (x1:Value) (t:Nat) (x2 x3 x4 x5:Value) (u l2:Nat) (d:Tok):Obj:=kO n n a b c l k f x1 t x2 x3 x4 x5 u l2 d
abbrev nF (vs:Array Value):Obj:=⟨.none,none,.fields vs,#[]⟩
abbrev lF (l:List (Nat×Nat×Nat)):Obj:=nF (l.flatMap fun t=>[.int t.1 0,.int t.2.1 0,.ref t.2.2]).toArray
def hV:Program:={ PySem.Challenge.pw_struckdeeds_k75_books_as_texts with main:={ PySem.Challenge.pw_struckdeeds_k75_books_as_texts.main with body:=([1,2,3,4,5,6,7,8,10,11,12,13,14,15,17,18,19,20,21,22,24,25,26,27,28,30,31,32,33,35,36,37,38,40,41,42,43,44,45,47,48,50,51,52,53,54,55,57,58,59,60,61,62,64,65,66,67,68,69,70,71,72,73,74]:List Nat).map hs } }
abbrev hB:List Stmt:=PySem.W.behindTheImports PySem.Challenge.pw_struckdeeds_k75_books_as_texts
def hN:Env:={ scope:=PySem.Challenge.pw_struckdeeds_k75_books_as_texts.main.scope,locals:=mainNs,globals:=mainNs,cells:=[],code:=a0Z 13,frame:=some 14 }
abbrev hC:Code:=.body hB hN
abbrev hF:List Frame:=[PySem.W.topFrame { line:=0,col:=0,endLine:=0,endCol:=0 }]
abbrev hI (t:PySem.W.BT) (l:List (Nat×Obj)):PySem.W.BT:=l.foldl (fun t x=>t.ins x.1 x.2) t
noncomputable def hT0:Params->PySem.W.BT:=fun P=>hI .nil [(0,PySem.W.boot_o_0 P),(1,PySem.W.boot_o_1 P),(2,PySem.W.boot_o_2 P),(3,PySem.W.boot_o_3 P),(4,PySem.W.boot_o_4 P),(5,PySem.W.boot_o_5 P),(6,PySem.W.boot_o_6 P),(7,PySem.W.boot_o_7 P),(8,PySem.W.boot_o_8 P),(9,PySem.W.boot_o_9 P),(10,PySem.W.boot_o_10 P)]
noncomputable def hT1:Params->PySem.W.BT:=fun P=>hI (hT0 P) (
 (11,tO #[]) ::
 (12,nF #[]) ::
 (13,(⟨(.type "code"),none,(.fields #[(vS "<module>" 182),(vS "<module>" 183),(vS "/claim/cut.py" 184),(.int 1 0),(.int 0 0),(.int 0 0),(.int 0 0),(.int 0 0),(.ref 11),(.bool false),(.int 181 0),(.ref 12),.none,.none,.none,.none,(.int 185 0),(.int 1 0),(vS "/claim/cut.py" 186)]),#[]⟩:Obj)) ::
 (14,(⟨(.type "frame"),none,.plain,#[(some (.ref 13)),(some (.ref 3)),(some (.ref 3)),none,(some (vS "__main__" 164)),none,(some (.ref 0))]⟩:Obj))::[])
noncomputable abbrev hX1 (w:World) (os:OsState):PySem.W.SharedT:=⟨hT1 w.params,15,{ },⟨[]⟩,{ },187,os⟩
noncomputable abbrev hX2 (w:World) (os:OsState):PySem.W.SharedT:=⟨hT1 w.params,15,{ },⟨[]⟩,{ },187,os⟩
def hD3:Params->List DictEntry:=fun P=>[eS P "__name__" 165 (vS "struckdeeds.errors" 289),eS P "__doc__" 166 .none,eS P "__package__" 167 .none,eS P "__loader__" 168 (.builtin "__main__.__loader__#opaque"),eS P "__spec__" 169 .none,eS P "__annotations__" 170 (.ref 6),eS P "__builtins__" 171 (.ref 4),eS P "__file__" 173 (vS "/claim/cut.py" 172),eS P "__cached__" 174 .none,eS P "LETTERS" 190 (vS "abcdefghijklmnopqrstuvwxyz" 189),eS P "LONGEST_NAME" 192 (.int 8 191),eS P "LAST_PLACE" 194 (.int 999 193),eS P "is_whole" 201 (.ref 21),eS P "is_name" 207 (.ref 26),eS P "is_within" 216 (.ref 33),eS P "is_place" 223 (.ref 40),eS P "rises" 229 (.ref 45),eS P "FORMS" 253 (.ref 46),eS P "form_of" 260 (.ref 53),eS P "is_deed" 266 (.ref 58),eS P "fits" 274 (.ref 65),eS P "names_in" 281 (.ref 72),eS P "made_by" 288 (.ref 79),eS P "StrikeError" 308 (.ref 89)]
noncomputable def hT3:Params->PySem.W.BT:=fun P=>hI (hT1 P) (
 (3,(⟨.type "dict", none,.dict (hD3 P).toArray 24,#[]⟩:Obj)) ::
 (12,lF [(5,0,20),(7,0,25),(11,0,32),(13,0,39),(15,0,44),(19,0,52),(21,0,57),(31,0,64),(37,0,71),(39,0,78),(46,0,85)]) ::
 (15,tO #[]) ::
 (16,nF #[]) ::
 (17,tO #[(vS "thing" 198)]) ::
 (18,tO #[]) ::
 (19,gP "is_whole" (hs 4)) ::
 (20,kPz "is_whole" 195 196 197 5 1 3 (.ref 15) 181 (.ref 16) (.ref 17) (.ref 18) (.ref 19) 199 5 200) ::
 (21,fP "is_whole" (hs 4) .none (vS "struckdeeds.words" 187) 20) ::
 (22,tO #[]) ::
 (23,nF #[]) ::
 (24,gP "is_name" (hs 5)) ::
 (25,kPz "is_name" 202 203 204 7 1 3 (.ref 22) 181 (.ref 23) .none .none (.ref 24) 205 7 206) ::
 (26,fP "is_name" (hs 5) .none (vS "struckdeeds.words" 187) 25) ::
 (27,tO #[]) ::
 (28,nF #[]) ::
 (29,tO #[(vS "thing" 211),(vS "low" 212),(vS "high" 213)]) ::
 (30,tO #[]) ::
 (31,gP "is_within" (hs 6)) ::
 (32,kPz "is_within" 208 209 210 11 3 3 (.ref 27) 181 (.ref 28) (.ref 29) (.ref 30) (.ref 31) 214 11 215) ::
 (33,fP "is_within" (hs 6) .none (vS "struckdeeds.words" 187) 32) ::
 (34,tO #[]) ::
 (35,nF #[]) ::
 (36,tO #[(vS "thing" 220)]) ::
 (37,tO #[]) ::
 (38,gP "is_place" (hs 7)) ::
 (39,kPz "is_place" 217 218 219 13 1 3 (.ref 34) 181 (.ref 35) (.ref 36) (.ref 37) (.ref 38) 221 13 222) ::
 (40,fP "is_place" (hs 7) .none (vS "struckdeeds.words" 187) 39) ::
 (41,tO #[]) ::
 (42,nF #[]) ::
 (43,gP "rises" (hs 8)) ::
 (44,kPz "rises" 224 225 226 15 1 3 (.ref 41) 181 (.ref 42) .none .none (.ref 43) 227 15 228) ::
 (45,fP "rises" (hs 8) .none (vS "struckdeeds.words" 187) 44) ::
 (46,(⟨(.type "dict"),none,(.dict #[eS P "put" 232 (vS "npk" 233),eS P "take" 234 (vS "n" 235),eS P "move" 236 (vS "np" 237),eS P "count" 238 (vS "nk" 239),eS P "name" 240 (vS "nn" 241),eS P "split" 242 (vS "nnpk" 243),eS P "join" 244 (vS "nn" 245)] 7),#[]⟩:Obj)) ::
 (47,tO #[]) ::
 (48,nF #[]) ::
 (49,tO #[(vS "word" 257)]) ::
 (50,tO #[]) ::
 (51,gP "form_of" (hs 11)) ::
 (52,kPz "form_of" 254 255 256 19 1 3 (.ref 47) 181 (.ref 48) (.ref 49) (.ref 50) (.ref 51) 258 19 259) ::
 (53,fP "form_of" (hs 11) .none (vS "struckdeeds.deeds" 230) 52) ::
 (54,tO #[]) ::
 (55,nF #[]) ::
 (56,gP "is_deed" (hs 12)) ::
 (57,kPz "is_deed" 261 262 263 21 1 3 (.ref 54) 181 (.ref 55) .none .none (.ref 56) 264 21 265) ::
 (58,fP "is_deed" (hs 12) .none (vS "struckdeeds.deeds" 230) 57) ::
 (59,tO #[]) ::
 (60,nF #[]) ::
 (61,tO #[(vS "sign" 270),(vS "part" 271)]) ::
 (62,tO #[]) ::
 (63,gP "fits" (hs 13)) ::
 (64,kPz "fits" 267 268 269 31 2 3 (.ref 59) 181 (.ref 60) (.ref 61) (.ref 62) (.ref 63) 272 31 273) ::
 (65,fP "fits" (hs 13) .none (vS "struckdeeds.deeds" 230) 64) ::
 (66,tO #[]) ::
 (67,nF #[]) ::
 (68,tO #[(vS "deed" 278)]) ::
 (69,tO #[]) ::
 (70,gP "names_in" (hs 14)) ::
 (71,kPz "names_in" 275 276 277 37 1 3 (.ref 66) 181 (.ref 67) (.ref 68) (.ref 69) (.ref 70) 279 37 280) ::
 (72,fP "names_in" (hs 14) .none (vS "struckdeeds.deeds" 230) 71) ::
 (73,tO #[]) ::
 (74,nF #[]) ::
 (75,tO #[(vS "deed" 285)]) ::
 (76,tO #[]) ::
 (77,gP "made_by" (hs 15)) ::
 (78,kPz "made_by" 282 283 284 39 1 3 (.ref 73) 181 (.ref 74) (.ref 75) (.ref 76) (.ref 77) 286 39 287) ::
 (79,fP "made_by" (hs 15) .none (vS "struckdeeds.deeds" 230) 78) ::
 (80,tO #[(.type "ValueError")]) ::
 (81,(⟨(.type "builtin_function_or_method"),none,(.fields #[(.builtin "type.__prepare__"),(.type "type")]),#[]⟩:Obj)) ::
 (82,(⟨(.type "dict"),none,(.dict #[eS P "__module__" 298 (vS "struckdeeds.errors" 289),eS P "__qualname__" 300 (vS "StrikeError" 299),eS P "__firstlineno__" 302 (.int 46 301),eS P "__static_attributes__" 303 (.ref 87)] 4),#[]⟩:Obj)) ::
 (83,tO #[]) ::
 (84,nF #[]) ::
 (85,(⟨(.type "code"),none,(.fields #[(vS "StrikeError" 293),(vS "StrikeError" 294),(vS "/claim/cut.py" 295),(.int 46 0),(.int 0 0),(.int 0 0),(.int 0 0),(.int 0 0),(.ref 83),(.bool false),(.int 181 0),(.ref 84),.none,.none,.none,.none,(.int 296 0),(.int 46 0),(vS "/claim/cut.py" 297)]),#[]⟩:Obj)) ::
 (86,(⟨(.type "frame"),none,.plain,#[(some (.ref 85)),(some (.ref 3)),(some (.ref 82)),none,(some (vS "struckdeeds.errors" 289)),none,(some (.ref 0))]⟩:Obj)) ::
 (87,tO #[]) ::
 (88,(⟨(.type "dict"),none,(.dict #[eS P "__module__" 298 (vS "struckdeeds.errors" 289),eS P "__firstlineno__" 302 (.int 46 301),eS P "__static_attributes__" 303 (.ref 87),eS P "__weakref__" 305 (.ref 90),eS P "__doc__" 306 .none] 3),#[]⟩:Obj)) ::
 (89,(⟨(.type "type"),none,(.cls (.mk "StrikeError" [(.type "ValueError")] [(.ref 89),(.type "ValueError"),(.type "Exception"),(.type "BaseException"),(.type "object")] 88 "StrikeError" true [] [] false none false)),#[(some (.ref 80)),none,(some (vS "StrikeError" 291)),(some (vS "StrikeError" 299)),(some (.builtin "ValueError.__new__")),(some (.bool true))]⟩:Obj)) ::
 (90,(⟨(.type "getset_descriptor"),none,(.fields #[(vS "__weakref__" 304),(.ref 89),(.builtin "ExceptionGroup.__weakref__"),.none]),#[]⟩:Obj)) ::
 (91,(⟨(.type "super"),none,(.fields #[(.ref 89),(.ref 89),(.ref 89)]),#[]⟩:Obj)) ::
 (92,(⟨(.type "builtin_function_or_method"),none,(.fields #[(.builtin "object.__init_subclass__"),(.ref 89)]),#[]⟩:Obj))::[])
noncomputable abbrev hX3 (w:World) (os:OsState):PySem.W.SharedT:=⟨hT3 w.params,93,{ },⟨[]⟩,{ },309,os⟩
def hD4:Params->List DictEntry:=fun P=>hD3 P++[eS P "NoText" 333 (.ref 109),eS P "NoDeed" 349 (.ref 121),eS P "NotNow" 374 (.ref 140)]
noncomputable def hT4:Params->PySem.W.BT:=fun P=>hI (hT3 P) (
 (3,(⟨.type "dict", none,.dict (hD4 P).toArray 27,#[]⟩:Obj)) ::
 (12,lF [(5,0,20),(7,0,25),(11,0,32),(13,0,39),(15,0,44),(19,0,52),(21,0,57),(31,0,64),(37,0,71),(39,0,78),(46,0,85),(48,0,98),(52,0,117),(54,0,129)]) ::
 (89,(⟨(.type "type"),none,(.cls (.mk "StrikeError" [(.type "ValueError")] [(.ref 89),(.type "ValueError"),(.type "Exception"),(.type "BaseException"),(.type "object")] 88 "StrikeError" true [] [(.ref 109),(.ref 121),(.ref 140)] false none false)),#[(some (.ref 80)),none,(some (vS "StrikeError" 291)),(some (vS "StrikeError" 299)),(some (.builtin "ValueError.__new__")),(some (.bool true))]⟩:Obj)) ::
 (93,tO #[(.ref 89)]) ::
 (94,(⟨(.type "builtin_function_or_method"),none,(.fields #[(.builtin "type.__prepare__"),(.type "type")]),#[]⟩:Obj)) ::
 (95,(⟨(.type "dict"),none,(.dict #[eS P "__module__" 316 (vS "struckdeeds.errors" 289),eS P "__qualname__" 318 (vS "NoText" 317),eS P "__firstlineno__" 320 (.int 48 319),eS P "__init__" 328 (.ref 106),eS P "__static_attributes__" 330 (.ref 107)] 5),#[]⟩:Obj)) ::
 (96,tO #[]) ::
 (97,lF [(50,4,105)]) ::
 (98,(⟨(.type "code"),none,(.fields #[(vS "NoText" 311),(vS "NoText" 312),(vS "/claim/cut.py" 313),(.int 48 0),(.int 0 0),(.int 0 0),(.int 0 0),(.int 0 0),(.ref 96),(.bool false),(.int 181 0),(.ref 97),.none,.none,.none,.none,(.int 314 0),(.int 48 0),(vS "/claim/cut.py" 315)]),#[]⟩:Obj)) ::
 (99,(⟨(.type "frame"),none,.plain,#[(some (.ref 98)),(some (.ref 3)),(some (.ref 95)),none,(some (vS "struckdeeds.errors" 289)),none,(some (.ref 0))]⟩:Obj)) ::
 (100,tO #[]) ::
 (101,nF #[]) ::
 (102,tO #[(vS "self" 324),(vS "part" 325)]) ::
 (103,tO #[]) ::
 (104,gO "__init__" "NoText.__init__" (OO 0 (hs 18))) ::
 (105,kO "__init__" "NoText.__init__" 321 322 323 50 2 3 (.ref 100) 181 (.ref 101) (.ref 102) (.ref 103) (.ref 104) 326 50 327) ::
 (106,fO "__init__" "NoText.__init__" (OO 0 (hs 18)) .none (vS "struckdeeds.errors" 289) 105) ::
 (107,tO #[(vS "part" 329)]) ::
 (108,(⟨(.type "dict"),none,(.dict #[eS P "__module__" 316 (vS "struckdeeds.errors" 289),eS P "__firstlineno__" 320 (.int 48 319),eS P "__init__" 328 (.ref 106),eS P "__static_attributes__" 330 (.ref 107),eS P "__doc__" 331 .none] 2),#[]⟩:Obj)) ::
 (109,(⟨(.type "type"),none,(.cls (.mk "NoText" [(.ref 89)] [(.ref 109),(.ref 89),(.type "ValueError"),(.type "Exception"),(.type "BaseException"),(.type "object")] 108 "NoText" true [] [] false none false)),#[(some (.ref 93)),none,(some (vS "NoText" 309)),(some (vS "NoText" 317)),(some (.builtin "ValueError.__new__")),(some (.bool true))]⟩:Obj)) ::
 (110,(⟨(.type "super"),none,(.fields #[(.ref 109),(.ref 109),(.ref 109)]),#[]⟩:Obj)) ::
 (111,(⟨(.type "builtin_function_or_method"),none,(.fields #[(.builtin "object.__init_subclass__"),(.ref 109)]),#[]⟩:Obj)) ::
 (112,tO #[(.ref 89)]) ::
 (113,(⟨(.type "builtin_function_or_method"),none,(.fields #[(.builtin "type.__prepare__"),(.type "type")]),#[]⟩:Obj)) ::
 (114,(⟨(.type "dict"),none,(.dict #[eS P "__module__" 341 (vS "struckdeeds.errors" 289),eS P "__qualname__" 343 (vS "NoDeed" 342),eS P "__firstlineno__" 345 (.int 52 344),eS P "__static_attributes__" 346 (.ref 119)] 4),#[]⟩:Obj)) ::
 (115,tO #[]) ::
 (116,nF #[]) ::
 (117,(⟨(.type "code"),none,(.fields #[(vS "NoDeed" 336),(vS "NoDeed" 337),(vS "/claim/cut.py" 338),(.int 52 0),(.int 0 0),(.int 0 0),(.int 0 0),(.int 0 0),(.ref 115),(.bool false),(.int 181 0),(.ref 116),.none,.none,.none,.none,(.int 339 0),(.int 52 0),(vS "/claim/cut.py" 340)]),#[]⟩:Obj)) ::
 (118,(⟨(.type "frame"),none,.plain,#[(some (.ref 117)),(some (.ref 3)),(some (.ref 114)),none,(some (vS "struckdeeds.errors" 289)),none,(some (.ref 0))]⟩:Obj)) ::
 (119,tO #[]) ::
 (120,(⟨(.type "dict"),none,(.dict #[eS P "__module__" 341 (vS "struckdeeds.errors" 289),eS P "__firstlineno__" 345 (.int 52 344),eS P "__static_attributes__" 346 (.ref 119),eS P "__doc__" 347 .none] 2),#[]⟩:Obj)) ::
 (121,(⟨(.type "type"),none,(.cls (.mk "NoDeed" [(.ref 89)] [(.ref 121),(.ref 89),(.type "ValueError"),(.type "Exception"),(.type "BaseException"),(.type "object")] 120 "NoDeed" true [] [] false none false)),#[(some (.ref 112)),none,(some (vS "NoDeed" 334)),(some (vS "NoDeed" 342)),(some (.builtin "ValueError.__new__")),(some (.bool true))]⟩:Obj)) ::
 (122,(⟨(.type "super"),none,(.fields #[(.ref 121),(.ref 121),(.ref 121)]),#[]⟩:Obj)) ::
 (123,(⟨(.type "builtin_function_or_method"),none,(.fields #[(.builtin "object.__init_subclass__"),(.ref 121)]),#[]⟩:Obj)) ::
 (124,tO #[(.ref 89)]) ::
 (125,(⟨(.type "builtin_function_or_method"),none,(.fields #[(.builtin "type.__prepare__"),(.type "type")]),#[]⟩:Obj)) ::
 (126,(⟨(.type "dict"),none,(.dict #[eS P "__module__" 357 (vS "struckdeeds.errors" 289),eS P "__qualname__" 359 (vS "NotNow" 358),eS P "__firstlineno__" 361 (.int 54 360),eS P "__init__" 369 (.ref 137),eS P "__static_attributes__" 371 (.ref 138)] 5),#[]⟩:Obj)) ::
 (127,tO #[]) ::
 (128,lF [(56,4,136)]) ::
 (129,(⟨(.type "code"),none,(.fields #[(vS "NotNow" 352),(vS "NotNow" 353),(vS "/claim/cut.py" 354),(.int 54 0),(.int 0 0),(.int 0 0),(.int 0 0),(.int 0 0),(.ref 127),(.bool false),(.int 181 0),(.ref 128),.none,.none,.none,.none,(.int 355 0),(.int 54 0),(vS "/claim/cut.py" 356)]),#[]⟩:Obj)) ::
 (130,(⟨(.type "frame"),none,.plain,#[(some (.ref 129)),(some (.ref 3)),(some (.ref 126)),none,(some (vS "struckdeeds.errors" 289)),none,(some (.ref 0))]⟩:Obj)) ::
 (131,tO #[]) ::
 (132,nF #[]) ::
 (133,tO #[(vS "self" 365),(vS "name" 366)]) ::
 (134,tO #[]) ::
 (135,gO "__init__" "NotNow.__init__" (OO 0 (hs 20))) ::
 (136,kO "__init__" "NotNow.__init__" 362 363 364 56 2 3 (.ref 131) 181 (.ref 132) (.ref 133) (.ref 134) (.ref 135) 367 56 368) ::
 (137,fO "__init__" "NotNow.__init__" (OO 0 (hs 20)) .none (vS "struckdeeds.errors" 289) 136) ::
 (138,tO #[(vS "name" 370)]) ::
 (139,(⟨(.type "dict"),none,(.dict #[eS P "__module__" 357 (vS "struckdeeds.errors" 289),eS P "__firstlineno__" 361 (.int 54 360),eS P "__init__" 369 (.ref 137),eS P "__static_attributes__" 371 (.ref 138),eS P "__doc__" 372 .none] 2),#[]⟩:Obj)) ::
 (140,(⟨(.type "type"),none,(.cls (.mk "NotNow" [(.ref 89)] [(.ref 140),(.ref 89),(.type "ValueError"),(.type "Exception"),(.type "BaseException"),(.type "object")] 139 "NotNow" true [] [] false none false)),#[(some (.ref 124)),none,(some (vS "NotNow" 350)),(some (vS "NotNow" 358)),(some (.builtin "ValueError.__new__")),(some (.bool true))]⟩:Obj)) ::
 (141,(⟨(.type "super"),none,(.fields #[(.ref 140),(.ref 140),(.ref 140)]),#[]⟩:Obj)) ::
 (142,(⟨(.type "builtin_function_or_method"),none,(.fields #[(.builtin "object.__init_subclass__"),(.ref 140)]),#[]⟩:Obj))::[])
noncomputable abbrev hX4 (w:World) (os:OsState):PySem.W.SharedT:=⟨hT4 w.params,143,{ },⟨[]⟩,{ },375,os⟩
def hD5:Params->List DictEntry:=fun P=>(hD4 P).set 0 (eS P "__name__" 165 (vS "struckdeeds.doings" 463))++[eS P "NoBook" 399 (.ref 159),eS P "NoName" 424 (.ref 178),eS P "is_thing" 433 (.ref 187),eS P "is_world" 439 (.ref 192),eS P "thing_of" 450 (.ref 199),eS P "by_names" 456 (.ref 204),eS P "rising_by_names" 462 (.ref 209),eS P "done" 473 (.ref 216),eS P "refuse_undoable" 483 (.ref 223),eS P "change" 493 (.ref 230)]
noncomputable def hT5:Params->PySem.W.BT:=fun P=>hI (hT4 P) (
 (3,(⟨.type "dict", none,.dict (hD5 P).toArray 37,#[]⟩:Obj)) ::
 (12,lF [(5,0,20),(7,0,25),(11,0,32),(13,0,39),(15,0,44),(19,0,52),(21,0,57),(31,0,64),(37,0,71),(39,0,78),(46,0,85),(48,0,98),(52,0,117),(54,0,129),(58,0,148),(62,0,167),(67,0,186),(71,0,191),(75,0,198),(80,0,203),(82,0,208),(85,0,215),(90,0,222),(97,0,229)]) ::
 (89,(⟨(.type "type"),none,(.cls (.mk "StrikeError" [(.type "ValueError")] [(.ref 89),(.type "ValueError"),(.type "Exception"),(.type "BaseException"),(.type "object")] 88 "StrikeError" true [] [(.ref 109),(.ref 121),(.ref 140),(.ref 159),(.ref 178)] false none false)),#[(some (.ref 80)),none,(some (vS "StrikeError" 291)),(some (vS "StrikeError" 299)),(some (.builtin "ValueError.__new__")),(some (.bool true))]⟩:Obj)) ::
 (143,tO #[(.ref 89)]) ::
 (144,(⟨(.type "builtin_function_or_method"),none,(.fields #[(.builtin "type.__prepare__"),(.type "type")]),#[]⟩:Obj)) ::
 (145,(⟨(.type "dict"),none,(.dict #[eS P "__module__" 382 (vS "struckdeeds.errors" 289),eS P "__qualname__" 384 (vS "NoBook" 383),eS P "__firstlineno__" 386 (.int 58 385),eS P "__init__" 394 (.ref 156),eS P "__static_attributes__" 396 (.ref 157)] 5),#[]⟩:Obj)) ::
 (146,tO #[]) ::
 (147,lF [(60,4,155)]) ::
 (148,(⟨(.type "code"),none,(.fields #[(vS "NoBook" 377),(vS "NoBook" 378),(vS "/claim/cut.py" 379),(.int 58 0),(.int 0 0),(.int 0 0),(.int 0 0),(.int 0 0),(.ref 146),(.bool false),(.int 181 0),(.ref 147),.none,.none,.none,.none,(.int 380 0),(.int 58 0),(vS "/claim/cut.py" 381)]),#[]⟩:Obj)) ::
 (149,(⟨(.type "frame"),none,.plain,#[(some (.ref 148)),(some (.ref 3)),(some (.ref 145)),none,(some (vS "struckdeeds.errors" 289)),none,(some (.ref 0))]⟩:Obj)) ::
 (150,tO #[]) ::
 (151,nF #[]) ::
 (152,tO #[(vS "self" 390),(vS "number" 391)]) ::
 (153,tO #[]) ::
 (154,gO "__init__" "NoBook.__init__" (OO 0 (hs 21))) ::
 (155,kO "__init__" "NoBook.__init__" 387 388 389 60 2 3 (.ref 150) 181 (.ref 151) (.ref 152) (.ref 153) (.ref 154) 392 60 393) ::
 (156,fO "__init__" "NoBook.__init__" (OO 0 (hs 21)) .none (vS "struckdeeds.errors" 289) 155) ::
 (157,tO #[(vS "number" 395)]) ::
 (158,(⟨(.type "dict"),none,(.dict #[eS P "__module__" 382 (vS "struckdeeds.errors" 289),eS P "__firstlineno__" 386 (.int 58 385),eS P "__init__" 394 (.ref 156),eS P "__static_attributes__" 396 (.ref 157),eS P "__doc__" 397 .none] 2),#[]⟩:Obj)) ::
 (159,(⟨(.type "type"),none,(.cls (.mk "NoBook" [(.ref 89)] [(.ref 159),(.ref 89),(.type "ValueError"),(.type "Exception"),(.type "BaseException"),(.type "object")] 158 "NoBook" true [] [] false none false)),#[(some (.ref 143)),none,(some (vS "NoBook" 375)),(some (vS "NoBook" 383)),(some (.builtin "ValueError.__new__")),(some (.bool true))]⟩:Obj)) ::
 (160,(⟨(.type "super"),none,(.fields #[(.ref 159),(.ref 159),(.ref 159)]),#[]⟩:Obj)) ::
 (161,(⟨(.type "builtin_function_or_method"),none,(.fields #[(.builtin "object.__init_subclass__"),(.ref 159)]),#[]⟩:Obj)) ::
 (162,tO #[(.ref 89)]) ::
 (163,(⟨(.type "builtin_function_or_method"),none,(.fields #[(.builtin "type.__prepare__"),(.type "type")]),#[]⟩:Obj)) ::
 (164,(⟨(.type "dict"),none,(.dict #[eS P "__module__" 407 (vS "struckdeeds.errors" 289),eS P "__qualname__" 409 (vS "NoName" 408),eS P "__firstlineno__" 411 (.int 62 410),eS P "__init__" 419 (.ref 175),eS P "__static_attributes__" 421 (.ref 176)] 5),#[]⟩:Obj)) ::
 (165,tO #[]) ::
 (166,lF [(64,4,174)]) ::
 (167,(⟨(.type "code"),none,(.fields #[(vS "NoName" 402),(vS "NoName" 403),(vS "/claim/cut.py" 404),(.int 62 0),(.int 0 0),(.int 0 0),(.int 0 0),(.int 0 0),(.ref 165),(.bool false),(.int 181 0),(.ref 166),.none,.none,.none,.none,(.int 405 0),(.int 62 0),(vS "/claim/cut.py" 406)]),#[]⟩:Obj)) ::
 (168,(⟨(.type "frame"),none,.plain,#[(some (.ref 167)),(some (.ref 3)),(some (.ref 164)),none,(some (vS "struckdeeds.errors" 289)),none,(some (.ref 0))]⟩:Obj)) ::
 (169,tO #[]) ::
 (170,nF #[]) ::
 (171,tO #[(vS "self" 415),(vS "name" 416)]) ::
 (172,tO #[]) ::
 (173,gO "__init__" "NoName.__init__" (OO 0 (hs 22))) ::
 (174,kO "__init__" "NoName.__init__" 412 413 414 64 2 3 (.ref 169) 181 (.ref 170) (.ref 171) (.ref 172) (.ref 173) 417 64 418) ::
 (175,fO "__init__" "NoName.__init__" (OO 0 (hs 22)) .none (vS "struckdeeds.errors" 289) 174) ::
 (176,tO #[(vS "name" 420)]) ::
 (177,(⟨(.type "dict"),none,(.dict #[eS P "__module__" 407 (vS "struckdeeds.errors" 289),eS P "__firstlineno__" 411 (.int 62 410),eS P "__init__" 419 (.ref 175),eS P "__static_attributes__" 421 (.ref 176),eS P "__doc__" 422 .none] 2),#[]⟩:Obj)) ::
 (178,(⟨(.type "type"),none,(.cls (.mk "NoName" [(.ref 89)] [(.ref 178),(.ref 89),(.type "ValueError"),(.type "Exception"),(.type "BaseException"),(.type "object")] 177 "NoName" true [] [] false none false)),#[(some (.ref 162)),none,(some (vS "NoName" 400)),(some (vS "NoName" 408)),(some (.builtin "ValueError.__new__")),(some (.bool true))]⟩:Obj)) ::
 (179,(⟨(.type "super"),none,(.fields #[(.ref 178),(.ref 178),(.ref 178)]),#[]⟩:Obj)) ::
 (180,(⟨(.type "builtin_function_or_method"),none,(.fields #[(.builtin "object.__init_subclass__"),(.ref 178)]),#[]⟩:Obj)) ::
 (181,tO #[]) ::
 (182,nF #[]) ::
 (183,tO #[(vS "thing" 430)]) ::
 (184,tO #[]) ::
 (185,gP "is_thing" (hs 24)) ::
 (186,kPz "is_thing" 427 428 429 67 1 3 (.ref 181) 181 (.ref 182) (.ref 183) (.ref 184) (.ref 185) 431 67 432) ::
 (187,fP "is_thing" (hs 24) .none (vS "struckdeeds.worlds" 425) 186) ::
 (188,tO #[]) ::
 (189,nF #[]) ::
 (190,gP "is_world" (hs 25)) ::
 (191,kPz "is_world" 434 435 436 71 1 3 (.ref 188) 181 (.ref 189) .none .none (.ref 190) 437 71 438) ::
 (192,fP "is_world" (hs 25) .none (vS "struckdeeds.worlds" 425) 191) ::
 (193,tO #[]) ::
 (194,nF #[]) ::
 (195,tO #[(vS "world" 443),(vS "name" 444),(vS "standing" 445),(vS "place" 446),(vS "count" 447)]) ::
 (196,tO #[]) ::
 (197,gP "thing_of" (hs 26)) ::
 (198,kPz "thing_of" 440 441 442 75 2 3 (.ref 193) 181 (.ref 194) (.ref 195) (.ref 196) (.ref 197) 448 75 449) ::
 (199,fP "thing_of" (hs 26) .none (vS "struckdeeds.worlds" 425) 198) ::
 (200,tO #[]) ::
 (201,nF #[]) ::
 (202,gP "by_names" (hs 27)) ::
 (203,kPz "by_names" 451 452 453 80 1 3 (.ref 200) 181 (.ref 201) .none .none (.ref 202) 454 80 455) ::
 (204,fP "by_names" (hs 27) .none (vS "struckdeeds.worlds" 425) 203) ::
 (205,tO #[]) ::
 (206,nF #[]) ::
 (207,gP "rising_by_names" (hs 28)) ::
 (208,kPz "rising_by_names" 457 458 459 82 1 3 (.ref 205) 181 (.ref 206) .none .none (.ref 207) 460 82 461) ::
 (209,fP "rising_by_names" (hs 28) .none (vS "struckdeeds.worlds" 425) 208) ::
 (210,tO #[]) ::
 (211,nF #[]) ::
 (212,tO #[(vS "world" 468),(vS "deed" 469),(vS "things" 470)]) ::
 (213,tO #[]) ::
 (214,gP "done" (hs 30)) ::
 (215,kPz "done" 465 466 467 85 2 3 (.ref 210) 181 (.ref 211) (.ref 212) (.ref 213) (.ref 214) 471 85 472) ::
 (216,fP "done" (hs 30) .none (vS "struckdeeds.doings" 463) 215) ::
 (217,tO #[]) ::
 (218,nF #[]) ::
 (219,tO #[(vS "things" 477),(vS "deed" 478),(vS "made" 479),(vS "name" 480)]) ::
 (220,tO #[]) ::
 (221,gP "refuse_undoable" (hs 31)) ::
 (222,kPz "refuse_undoable" 474 475 476 90 2 3 (.ref 217) 181 (.ref 218) (.ref 219) (.ref 220) (.ref 221) 481 90 482) ::
 (223,fP "refuse_undoable" (hs 31) .none (vS "struckdeeds.doings" 463) 222) ::
 (224,tO #[]) ::
 (225,nF #[]) ::
 (226,tO #[(vS "things" 487),(vS "deed" 488),(vS "word" 489),(vS "name" 490)]) ::
 (227,tO #[]) ::
 (228,gP "change" (hs 32)) ::
 (229,kPz "change" 484 485 486 97 2 3 (.ref 224) 181 (.ref 225) (.ref 226) (.ref 227) (.ref 228) 491 97 492) ::
 (230,fP "change" (hs 32) .none (vS "struckdeeds.doings" 463) 229)::[])
noncomputable abbrev hX5 (w:World) (os:OsState):PySem.W.SharedT:=⟨hT5 w.params,231,{ },⟨[]⟩,{ },494,os⟩
def hD6:Params->List DictEntry:=fun P=>(hD5 P).set 0 (eS P "__name__" 165 (vS "law_struckdeeds_k75_books_as_texts" 674))++[eS P "add_count" 504 (.ref 237),eS P "checked_book" 518 (.ref 244),eS P "told_on" 529 (.ref 251),eS P "makers" 535 (.ref 256),eS P "deeds_of" 541 (.ref 261),eS P "FIGURES" 545 (vS "0123456789" 544),eS P "GROUP_LENGTH" 547 (.int 18 546),eS P "GROUP" 551 (.int 1000000000000000000 550),eS P "show_whole" 560 (.ref 268),eS P "read_whole" 571 (.ref 275),eS P "is_row_of_figures" 577 (.ref 280),eS P "show_deed" 585 (.ref 285),eS P "read_deed" 591 (.ref 290),eS P "BETWEEN" 595 (vS ", " 594),eS P "NO_THINGS" 597 (vS "-" 596),eS P "show_world" 603 (.ref 295),eS P "show_thing" 613 (.ref 302),eS P "read_world" 624 (.ref 309),eS P "read_thing" 638 (.ref 316),eS P "START" 642 (vS "start " 641),eS P "BEHIND_HAND" 644 (vS ": " 643),eS P "show_book" 650 (.ref 321),eS P "read_book" 656 (.ref 326),eS P "read_start" 663 (.ref 333),eS P "read_line" 673 (.ref 340),eS P "_law_mixed" 682 (.ref 347),eS P "_law_take" 691 (.ref 354),eS P "_law_names" 697 (.ref 359)]
noncomputable def hT6:Params->PySem.W.BT:=fun P=>hI (hT5 P) (
 (3,(⟨.type "dict", none,.dict (hD6 P).toArray 65,#[]⟩:Obj)) ::
 (12,lF [(5,0,20),(7,0,25),(11,0,32),(13,0,39),(15,0,44),(19,0,52),(21,0,57),(31,0,64),(37,0,71),(39,0,78),(46,0,85),(48,0,98),(52,0,117),(54,0,129),(58,0,148),(62,0,167),(67,0,186),(71,0,191),(75,0,198),(80,0,203),(82,0,208),(85,0,215),(90,0,222),(97,0,229),(115,0,236),(119,0,243),(134,0,250),(143,0,255),(146,0,260),(152,0,267),(161,0,274),(170,0,279),(173,0,284),(175,0,289),(189,0,294),(193,0,301),(196,0,308),(208,0,315),(216,0,320),(219,0,325),(227,0,332),(232,0,339),(239,0,346),(241,0,353),(244,0,358)]) ::
 (231,tO #[]) ::
 (232,nF #[]) ::
 (233,tO #[(vS "things" 497),(vS "name" 498),(vS "more" 499),(vS "place" 500),(vS "count" 501)]) ::
 (234,tO #[]) ::
 (235,gP "add_count" (hs 33)) ::
 (236,kPz "add_count" 494 495 496 115 3 3 (.ref 231) 181 (.ref 232) (.ref 233) (.ref 234) (.ref 235) 502 115 503) ::
 (237,fP "add_count" (hs 33) .none (vS "struckdeeds.doings" 463) 236) ::
 (238,tO #[]) ::
 (239,nF #[]) ::
 (240,tO #[(vS "thing" 510),(vS "start" 511),(vS "lines" 512),(vS "here" 513),(vS "number" 514),(vS "line" 515)]) ::
 (241,tO #[]) ::
 (242,gP "checked_book" (hs 35)) ::
 (243,kPz "checked_book" 507 508 509 119 1 3 (.ref 238) 181 (.ref 239) (.ref 240) (.ref 241) (.ref 242) 516 119 517) ::
 (244,fP "checked_book" (hs 35) .none (vS "struckdeeds.books" 505) 243) ::
 (245,tO #[]) ::
 (246,nF #[]) ::
 (247,tO #[(vS "world" 522),(vS "book" 523),(vS "hand" 524),(vS "deed" 525),(vS "made" 526)]) ::
 (248,tO #[]) ::
 (249,gP "told_on" (hs 36)) ::
 (250,kPz "told_on" 519 520 521 134 4 3 (.ref 245) 181 (.ref 246) (.ref 247) (.ref 248) (.ref 249) 527 134 528) ::
 (251,fP "told_on" (hs 36) .none (vS "struckdeeds.books" 505) 250) ::
 (252,tO #[]) ::
 (253,nF #[]) ::
 (254,gP "makers" (hs 37)) ::
 (255,kPz "makers" 530 531 532 143 1 3 (.ref 252) 181 (.ref 253) .none .none (.ref 254) 533 143 534) ::
 (256,fP "makers" (hs 37) .none (vS "struckdeeds.books" 505) 255) ::
 (257,tO #[]) ::
 (258,nF #[]) ::
 (259,gP "deeds_of" (hs 38)) ::
 (260,kPz "deeds_of" 536 537 538 146 1 3 (.ref 257) 181 (.ref 258) .none .none (.ref 259) 539 146 540) ::
 (261,fP "deeds_of" (hs 38) .none (vS "struckdeeds.books" 505) 260) ::
 (262,tO #[]) ::
 (263,nF #[]) ::
 (264,tO #[(vS "number" 555),(vS "groups" 556),(vS "low" 557)]) ::
 (265,tO #[]) ::
 (266,gP "show_whole" (hs 43)) ::
 (267,kPz "show_whole" 552 553 554 152 1 3 (.ref 262) 181 (.ref 263) (.ref 264) (.ref 265) (.ref 266) 558 152 559) ::
 (268,fP "show_whole" (hs 43) .none (vS "struckdeeds.figures" 542) 267) ::
 (269,tO #[]) ::
 (270,nF #[]) ::
 (271,tO #[(vS "text" 564),(vS "below" 565),(vS "figures" 566),(vS "number" 567),(vS "figure" 568)]) ::
 (272,tO #[]) ::
 (273,gP "read_whole" (hs 44)) ::
 (274,kPz "read_whole" 561 562 563 161 1 3 (.ref 269) 181 (.ref 270) (.ref 271) (.ref 272) (.ref 273) 569 161 570) ::
 (275,fP "read_whole" (hs 44) .none (vS "struckdeeds.figures" 542) 274) ::
 (276,tO #[]) ::
 (277,nF #[]) ::
 (278,gP "is_row_of_figures" (hs 45)) ::
 (279,kPz "is_row_of_figures" 572 573 574 170 1 3 (.ref 276) 181 (.ref 277) .none .none (.ref 278) 575 170 576) ::
 (280,fP "is_row_of_figures" (hs 45) .none (vS "struckdeeds.figures" 542) 279) ::
 (281,tO #[]) ::
 (282,nF #[]) ::
 (283,gP "show_deed" (hs 47)) ::
 (284,kPz "show_deed" 580 581 582 173 1 3 (.ref 281) 181 (.ref 282) .none .none (.ref 283) 583 173 584) ::
 (285,fP "show_deed" (hs 47) .none (vS "struckdeeds.deedtexts" 578) 284) ::
 (286,tO #[]) ::
 (287,nF #[]) ::
 (288,gP "read_deed" (hs 48)) ::
 (289,kPz "read_deed" 586 587 588 175 1 3 (.ref 286) 181 (.ref 287) .none .none (.ref 288) 589 175 590) ::
 (290,fP "read_deed" (hs 48) .none (vS "struckdeeds.deedtexts" 578) 289) ::
 (291,tO #[]) ::
 (292,nF #[]) ::
 (293,gP "show_world" (hs 52)) ::
 (294,kPz "show_world" 598 599 600 189 1 3 (.ref 291) 181 (.ref 292) .none .none (.ref 293) 601 189 602) ::
 (295,fP "show_world" (hs 52) .none (vS "struckdeeds.worldtexts" 592) 294) ::
 (296,tO #[]) ::
 (297,nF #[]) ::
 (298,tO #[(vS "thing" 607),(vS "name" 608),(vS "place" 609),(vS "count" 610)]) ::
 (299,tO #[]) ::
 (300,gP "show_thing" (hs 53)) ::
 (301,kPz "show_thing" 604 605 606 193 1 3 (.ref 296) 181 (.ref 297) (.ref 298) (.ref 299) (.ref 300) 611 193 612) ::
 (302,fP "show_thing" (hs 53) .none (vS "struckdeeds.worldtexts" 592) 301) ::
 (303,tO #[]) ::
 (304,nF #[]) ::
 (305,tO #[(vS "text" 617),(vS "things" 618),(vS "number" 619),(vS "part" 620),(vS "thing" 621)]) ::
 (306,tO #[]) ::
 (307,gP "read_world" (hs 54)) ::
 (308,kPz "read_world" 614 615 616 196 1 3 (.ref 303) 181 (.ref 304) (.ref 305) (.ref 306) (.ref 307) 622 196 623) ::
 (309,fP "read_world" (hs 54) .none (vS "struckdeeds.worldtexts" 592) 308) ::
 (310,tO #[]) ::
 (311,nF #[]) ::
 (312,tO #[(vS "text" 628),(vS "name" 629),(vS "at" 630),(vS "behind_name" 631),(vS "place" 632),(vS "colon" 633),(vS "count" 634),(vS "thing" 635)]) ::
 (313,tO #[]) ::
 (314,gP "read_thing" (hs 55)) ::
 (315,kPz "read_thing" 625 626 627 208 1 3 (.ref 310) 181 (.ref 311) (.ref 312) (.ref 313) (.ref 314) 636 208 637) ::
 (316,fP "read_thing" (hs 55) .none (vS "struckdeeds.worldtexts" 592) 315) ::
 (317,tO #[]) ::
 (318,nF #[]) ::
 (319,gP "show_book" (hs 59)) ::
 (320,kPz "show_book" 645 646 647 216 1 3 (.ref 317) 181 (.ref 318) .none .none (.ref 319) 648 216 649) ::
 (321,fP "show_book" (hs 59) .none (vS "struckdeeds.booktexts" 639) 320) ::
 (322,tO #[]) ::
 (323,nF #[]) ::
 (324,gP "read_book" (hs 60)) ::
 (325,kPz "read_book" 651 652 653 219 1 3 (.ref 322) 181 (.ref 323) .none .none (.ref 324) 654 219 655) ::
 (326,fP "read_book" (hs 60) .none (vS "struckdeeds.booktexts" 639) 325) ::
 (327,tO #[]) ::
 (328,nF #[]) ::
 (329,tO #[(vS "row" 660)]) ::
 (330,tO #[]) ::
 (331,gP "read_start" (hs 61)) ::
 (332,kPz "read_start" 657 658 659 227 1 3 (.ref 327) 181 (.ref 328) (.ref 329) (.ref 330) (.ref 331) 661 227 662) ::
 (333,fP "read_start" (hs 61) .none (vS "struckdeeds.booktexts" 639) 332) ::
 (334,tO #[]) ::
 (335,nF #[]) ::
 (336,tO #[(vS "row" 667),(vS "hand" 668),(vS "between" 669),(vS "deed" 670)]) ::
 (337,tO #[]) ::
 (338,gP "read_line" (hs 62)) ::
 (339,kPz "read_line" 664 665 666 232 1 3 (.ref 334) 181 (.ref 335) (.ref 336) (.ref 337) (.ref 338) 671 232 672) ::
 (340,fP "read_line" (hs 62) .none (vS "struckdeeds.booktexts" 639) 339) ::
 (341,tO #[]) ::
 (342,nF #[]) ::
 (343,tO #[(vS "_law_cell" 679)]) ::
 (344,tO #[]) ::
 (345,gP "_law_mixed" (hs 64)) ::
 (346,kPz "_law_mixed" 676 677 678 239 1 3 (.ref 341) 181 (.ref 342) (.ref 343) (.ref 344) (.ref 345) 680 239 681) ::
 (347,fP "_law_mixed" (hs 64) .none (vS "law_struckdeeds_k75_books_as_texts" 674) 346) ::
 (348,tO #[]) ::
 (349,nF #[]) ::
 (350,tO #[(vS "_law_pack" 686),(vS "_law_size" 687),(vS "_law_digit" 688)]) ::
 (351,tO #[]) ::
 (352,gP "_law_take" (hs 65)) ::
 (353,kPz "_law_take" 683 684 685 241 2 3 (.ref 348) 181 (.ref 349) (.ref 350) (.ref 351) (.ref 352) 689 241 690) ::
 (354,fP "_law_take" (hs 65) .none (vS "law_struckdeeds_k75_books_as_texts" 674) 353) ::
 (355,tO #[]) ::
 (356,nF #[]) ::
 (357,gP "_law_names" (hs 66)) ::
 (358,kPz "_law_names" 692 693 694 244 2 3 (.ref 355) 181 (.ref 356) .none .none (.ref 357) 695 244 696) ::
 (359,fP "_law_names" (hs 66) .none (vS "law_struckdeeds_k75_books_as_texts" 674) 358)::[])
noncomputable abbrev hX6 (w:World) (os:OsState):PySem.W.SharedT:=⟨hT6 w.params,360,{ },⟨[]⟩,{ },698,os⟩
def hD7:Params->List DictEntry:=fun P=>hD6 P++[eS P "_law_deed" 703 (.ref 364),eS P "_law_after" 709 (.ref 369),eS P "_law_start" 715 (.ref 374),eS P "_law_book" 733 (.ref 381),eS P "_law_world_text" 739 (.ref 386),eS P "_law_deed_text" 745 (.ref 391),eS P "_law_text" 751 (.ref 396),eS P "law" 763 (.ref 403)]
noncomputable def hT7:Params->PySem.W.BT:=fun P=>hI (hT6 P) (
 (3,(⟨.type "dict", none,.dict (hD7 P).toArray 73,#[]⟩:Obj)) ::
 (12,lF [(5,0,20),(7,0,25),(11,0,32),(13,0,39),(15,0,44),(19,0,52),(21,0,57),(31,0,64),(37,0,71),(39,0,78),(46,0,85),(48,0,98),(52,0,117),(54,0,129),(58,0,148),(62,0,167),(67,0,186),(71,0,191),(75,0,198),(80,0,203),(82,0,208),(85,0,215),(90,0,222),(97,0,229),(115,0,236),(119,0,243),(134,0,250),(143,0,255),(146,0,260),(152,0,267),(161,0,274),(170,0,279),(173,0,284),(175,0,289),(189,0,294),(193,0,301),(196,0,308),(208,0,315),(216,0,320),(219,0,325),(227,0,332),(232,0,339),(239,0,346),(241,0,353),(244,0,358),(255,0,363),(276,0,368),(284,0,373),(287,0,380),(303,0,385),(307,0,390),(309,0,395),(312,0,402)]) ::
 (360,tO #[]) ::
 (361,nF #[]) ::
 (362,gP "_law_deed" (hs 67)) ::
 (363,kPz "_law_deed" 698 699 700 255 3 3 (.ref 360) 181 (.ref 361) .none .none (.ref 362) 701 255 702) ::
 (364,fP "_law_deed" (hs 67) .none (vS "law_struckdeeds_k75_books_as_texts" 674) 363) ::
 (365,tO #[]) ::
 (366,nF #[]) ::
 (367,gP "_law_after" (hs 68)) ::
 (368,kPz "_law_after" 704 705 706 276 3 3 (.ref 365) 181 (.ref 366) .none .none (.ref 367) 707 276 708) ::
 (369,fP "_law_after" (hs 68) .none (vS "law_struckdeeds_k75_books_as_texts" 674) 368) ::
 (370,tO #[]) ::
 (371,nF #[]) ::
 (372,gP "_law_start" (hs 69)) ::
 (373,kPz "_law_start" 710 711 712 284 3 3 (.ref 370) 181 (.ref 371) .none .none (.ref 372) 713 284 714) ::
 (374,fP "_law_start" (hs 69) .none (vS "law_struckdeeds_k75_books_as_texts" 674) 373) ::
 (375,tO #[]) ::
 (376,nF #[]) ::
 (377,tO #[(vS "_law_head" 719),(vS "_law_cells" 720),(vS "_law_pack" 721),(vS "_law_spare" 722),(vS "_law_amount" 723),(vS "_law_start_here" 724),(vS "_law_some" 725),(vS "_law_lines" 726),(vS "_law_cell" 727),(vS "_law_digits" 728),(vS "_law_hand" 729),(vS "_law_deed_here" 730)]) ::
 (378,tO #[]) ::
 (379,gP "_law_book" (hs 70)) ::
 (380,kPz "_law_book" 716 717 718 287 2 3 (.ref 375) 181 (.ref 376) (.ref 377) (.ref 378) (.ref 379) 731 287 732) ::
 (381,fP "_law_book" (hs 70) .none (vS "law_struckdeeds_k75_books_as_texts" 674) 380) ::
 (382,tO #[]) ::
 (383,nF #[]) ::
 (384,gP "_law_world_text" (hs 71)) ::
 (385,kPz "_law_world_text" 734 735 736 303 1 3 (.ref 382) 181 (.ref 383) .none .none (.ref 384) 737 303 738) ::
 (386,fP "_law_world_text" (hs 71) .none (vS "law_struckdeeds_k75_books_as_texts" 674) 385) ::
 (387,tO #[]) ::
 (388,nF #[]) ::
 (389,gP "_law_deed_text" (hs 72)) ::
 (390,kPz "_law_deed_text" 740 741 742 307 1 3 (.ref 387) 181 (.ref 388) .none .none (.ref 389) 743 307 744) ::
 (391,fP "_law_deed_text" (hs 72) .none (vS "law_struckdeeds_k75_books_as_texts" 674) 390) ::
 (392,tO #[]) ::
 (393,nF #[]) ::
 (394,gP "_law_text" (hs 73)) ::
 (395,kPz "_law_text" 746 747 748 309 1 3 (.ref 392) 181 (.ref 393) .none .none (.ref 394) 749 309 750) ::
 (396,fP "_law_text" (hs 73) .none (vS "law_struckdeeds_k75_books_as_texts" 674) 395) ::
 (397,tO #[]) ::
 (398,nF #[]) ::
 (399,tO #[(vS "_law_script" 755),(vS "_law_book_here" 756),(vS "_law_size" 757),(vS "_law_some" 758),(vS "_law_text_here" 759),(vS "_law_found" 760)]) ::
 (400,tO #[]) ::
 (401,gP "law" (hs 74)) ::
 (402,kPz "law" 752 753 754 312 1 3 (.ref 397) 181 (.ref 398) (.ref 399) (.ref 400) (.ref 401) 761 312 762) ::
 (403,fP "law" (hs 74) .none (vS "law_struckdeeds_k75_books_as_texts" 674) 402)::[])
noncomputable abbrev hX7 (w:World) (os:OsState):PySem.W.SharedT:=⟨hT7 w.params,404,{ },⟨[]⟩,{ },764,os⟩
noncomputable abbrev hX8 (w:World) (os:OsState):PySem.W.SharedT:=⟨hT7 w.params,404,{ },⟨[]⟩,{ },764,os⟩
noncomputable def hg (P:Params) (a:Nat):Obj:=((hT7 P).get a).getD default
noncomputable def hK:Params->PySem.W.Frag:=fun P=>
 (nat_lit 2,hg P 2) ::
 (nat_lit 3,hg P 3) ::
 (nat_lit 20,hg P 20) ::
 (nat_lit 21,fP "is_whole" IK .none (vS "struckdeeds.words" 187) 20) ::
 (nat_lit 25,hg P 25) ::
 (nat_lit 26,fP "is_name" HJ .none (vS "struckdeeds.words" 187) 25) ::
 (nat_lit 32,hg P 32) ::
 (nat_lit 33,fP "is_within" GE .none (vS "struckdeeds.words" 187) 32) ::
 (nat_lit 39,hg P 39) ::
 (nat_lit 40,fP "is_place" IL .none (vS "struckdeeds.words" 187) 39) ::
 (nat_lit 44,hg P 44) ::
 (nat_lit 45,fP "rises" N4 .none (vS "struckdeeds.words" 187) 44) ::
 (nat_lit 46,(⟨(.type "dict"),none,(.dict #[eS P "put" 232 (vS "npk" 233),eS P "take" 234 (vS "n" 235),eS P "move" 236 (vS "np" 237),eS P "count" 238 (vS "nk" 239),eS P "name" 240 (vS "nn" 241),eS P "split" 242 (vS "nnpk" 243),eS P "join" 244 (vS "nn" 245)] 7),#[]⟩:Obj)) ::
 (nat_lit 52,hg P 52) ::
 (nat_lit 53,fP "form_of" KQ .none (vS "struckdeeds.deeds" 230) 52) ::
 (nat_lit 57,hg P 57) ::
 (nat_lit 58,fP "is_deed" HK .none (vS "struckdeeds.deeds" 230) 57) ::
 (nat_lit 64,hg P 64) ::
 (nat_lit 65,fP "fits" WU .none (vS "struckdeeds.deeds" 230) 64) ::
 (nat_lit 71,hg P 71) ::
 (nat_lit 72,fP "names_in" IM .none (vS "struckdeeds.deeds" 230) 71) ::
 (nat_lit 78,hg P 78) ::
 (nat_lit 79,fP "made_by" KR .none (vS "struckdeeds.deeds" 230) 78) ::
 (nat_lit 88,hg P 88) ::
 (nat_lit 89,(⟨(.type "type"),none,(.cls (.mk "StrikeError" [(.type "ValueError")] [(.ref 89),(.type "ValueError"),(.type "Exception"),(.type "BaseException"),(.type "object")] 88 "StrikeError" true [] [(.ref 109),(.ref 121),(.ref 140),(.ref 159),(.ref 178)] false none false)),#[(some (.ref 80)),none,(some (vS "StrikeError" 291)),(some (vS "StrikeError" 299)),(some (.builtin "ValueError.__new__")),(some (.bool true))]⟩:Obj)) ::
 (nat_lit 90,hg P 90) ::
 (nat_lit 108,hg P 108) ::
 (nat_lit 109,hg P 109) ::
 (nat_lit 120,hg P 120) ::
 (nat_lit 121,hg P 121) ::
 (nat_lit 139,hg P 139) ::
 (nat_lit 140,hg P 140) ::
 (nat_lit 158,hg P 158) ::
 (nat_lit 159,hg P 159) ::
 (nat_lit 177,hg P 177) ::
 (nat_lit 178,hg P 178) ::
 (nat_lit 186,hg P 186) ::
 (nat_lit 187,fP "is_thing" IN .none (vS "struckdeeds.worlds" 425) 186) ::
 (nat_lit 191,hg P 191) ::
 (nat_lit 192,fP "is_world" FZ .none (vS "struckdeeds.worlds" 425) 191) ::
 (nat_lit 198,hg P 198) ::
 (nat_lit 199,fP "thing_of" IO .none (vS "struckdeeds.worlds" 425) 198) ::
 (nat_lit 203,hg P 203) ::
 (nat_lit 204,fP "by_names" G0 .none (vS "struckdeeds.worlds" 425) 203) ::
 (nat_lit 208,hg P 208) ::
 (nat_lit 209,fP "rising_by_names" BG .none (vS "struckdeeds.worlds" 425) 208) ::
 (nat_lit 215,hg P 215) ::
 (nat_lit 216,fP "done" WV .none (vS "struckdeeds.doings" 463) 215) ::
 (nat_lit 222,hg P 222) ::
 (nat_lit 223,fP "refuse_undoable" C8 .none (vS "struckdeeds.doings" 463) 222) ::
 (nat_lit 229,hg P 229) ::
 (nat_lit 230,fP "change" N5 .none (vS "struckdeeds.doings" 463) 229) ::
 (nat_lit 236,hg P 236) ::
 (nat_lit 237,fP "add_count" GF .none (vS "struckdeeds.doings" 463) 236) ::
 (nat_lit 243,hg P 243) ::
 (nat_lit 244,fP "checked_book" DH .none (vS "struckdeeds.books" 505) 243) ::
 (nat_lit 250,hg P 250) ::
 (nat_lit 251,fP "told_on" KS .none (vS "struckdeeds.books" 505) 250) ::
 (nat_lit 255,hg P 255) ::
 (nat_lit 256,fP "makers" HL .none (vS "struckdeeds.books" 505) 255) ::
 (nat_lit 260,hg P 260) ::
 (nat_lit 261,fP "deeds_of" G1 .none (vS "struckdeeds.books" 505) 260) ::
 (nat_lit 267,hg P 267) ::
 (nat_lit 268,fP "show_whole" DJ .none (vS "struckdeeds.figures" 542) 267) ::
 (nat_lit 274,hg P 274) ::
 (nat_lit 275,fP "read_whole" FC .none (vS "struckdeeds.figures" 542) 274) ::
 (nat_lit 279,hg P 279) ::
 (nat_lit 280,fP "is_row_of_figures" B8 .none (vS "struckdeeds.figures" 542) 279) ::
 (nat_lit 284,hg P 284) ::
 (nat_lit 285,fP "show_deed" EH .none (vS "struckdeeds.deedtexts" 578) 284) ::
 (nat_lit 289,hg P 289) ::
 (nat_lit 290,fP "read_deed" EI .none (vS "struckdeeds.deedtexts" 578) 289) ::
 (nat_lit 294,hg P 294) ::
 (nat_lit 295,fP "show_world" DK .none (vS "struckdeeds.worldtexts" 592) 294) ::
 (nat_lit 301,hg P 301) ::
 (nat_lit 302,fP "show_thing" FD .none (vS "struckdeeds.worldtexts" 592) 301) ::
 (nat_lit 308,hg P 308) ::
 (nat_lit 309,fP "read_world" FF .none (vS "struckdeeds.worldtexts" 592) 308) ::
 (nat_lit 315,hg P 315) ::
 (nat_lit 316,fP "read_thing" FE .none (vS "struckdeeds.worldtexts" 592) 315) ::
 (nat_lit 320,hg P 320) ::
 (nat_lit 321,fP "show_book" EJ .none (vS "struckdeeds.booktexts" 639) 320) ::
 (nat_lit 325,hg P 325) ::
 (nat_lit 326,fP "read_book" EK .none (vS "struckdeeds.booktexts" 639) 325) ::
 (nat_lit 332,hg P 332) ::
 (nat_lit 333,fP "read_start" FG .none (vS "struckdeeds.booktexts" 639) 332) ::
 (nat_lit 339,hg P 339) ::
 (nat_lit 340,fP "read_line" GG .none (vS "struckdeeds.booktexts" 639) 339) ::
 (nat_lit 346,hg P 346) ::
 (nat_lit 347,fP "_law_mixed" FH .none (vS "law_struckdeeds_k75_books_as_texts" 674) 346) ::
 (nat_lit 353,hg P 353) ::
 (nat_lit 354,fP "_law_take" GH .none (vS "law_struckdeeds_k75_books_as_texts" 674) 353) ::
 (nat_lit 358,hg P 358) ::
 (nat_lit 359,fP "_law_names" CJ .none (vS "law_struckdeeds_k75_books_as_texts" 674) 358) ::
 (nat_lit 363,hg P 363) ::
 (nat_lit 364,fP "_law_deed" EL .none (vS "law_struckdeeds_k75_books_as_texts" 674) 363) ::
 (nat_lit 368,hg P 368) ::
 (nat_lit 369,fP "_law_after" CK .none (vS "law_struckdeeds_k75_books_as_texts" 674) 368) ::
 (nat_lit 373,hg P 373) ::
 (nat_lit 374,fP "_law_start" DN .none (vS "law_struckdeeds_k75_books_as_texts" 674) 373) ::
 (nat_lit 380,hg P 380) ::
 (nat_lit 381,fP "_law_book" GI .none (vS "law_struckdeeds_k75_books_as_texts" 674) 380) ::
 (nat_lit 385,hg P 385) ::
 (nat_lit 386,fP "_law_world_text" BH .none (vS "law_struckdeeds_k75_books_as_texts" 674) 385) ::
 (nat_lit 390,hg P 390) ::
 (nat_lit 391,fP "_law_deed_text" BM .none (vS "law_struckdeeds_k75_books_as_texts" 674) 390) ::
 (nat_lit 395,hg P 395) ::
 (nat_lit 396,fP "_law_text" EM .none (vS "law_struckdeeds_k75_books_as_texts" 674) 395) ::
 (nat_lit 402,hg P 402) ::
 (nat_lit 403,fP "law" fR .none (vS "law_struckdeeds_k75_books_as_texts" 674) 402)::[]
def hA:List Addr:=[2,3,20,21,25,26,32,33,39,40,44,45,46,52,53,57,58,64,65,71,72,78,79,88,89,90,108,109,120,121,139,140,158,159,177,178,186,187,191,192,198,199,203,204,208,209,215,216,222,223,229,230,236,237,243,244,250,251,255,256,260,261,267,268,274,275,279,280,284,285,289,290,294,295,301,302,308,309,315,316,320,321,325,326,332,333,339,340,346,347,353,354,358,359,363,364,368,369,373,374,380,381,385,386,390,391,395,396,402,403]
theorem hE:∀P,hA=(hK P).map (·.1):=fun _=>by kernel_rfl
theorem hp1 (w:World):(fun os=>PySem.W.topGo treeTable PySem.Challenge.pw_struckdeeds_k75_books_as_texts w 11 (a2W (a0Z 6)) 12 ⟨a5K w.params,⟨[]⟩,b8K,b9V,os⟩ (PySem.W.topStub PySem.Challenge.pw_struckdeeds_k75_books_as_texts))=fun os=>some ((hX1 w os).abs,⟨denote treeTable hC,hC,{ line:=0,col:=0,endLine:=0,endCol:=0 },hF⟩):=by kernel_rfl
theorem hp2 (w:World):(fun os=>a9J treeTable PySem.Challenge.pw_struckdeeds_k75_books_as_texts w 11 (a2W (a0Z 6)) 1 1 (hX1 w os) (PySem.W.blockOf hB hN hC { line:=0,col:=0,endLine:=0,endCol:=0 } hF))=fun os=>some (.next,hX2 w os,hC,{ line:=0,col:=0,endLine:=0,endCol:=0 }):=by kernel_rfl
def hQ3:List Stmt:=(hB.drop 0).take 18
abbrev A1A (w:World):Prop:=(fun os=>a9J treeTable PySem.Challenge.pw_struckdeeds_k75_books_as_texts w 11 (a2W (a0Z 6)) 1 640 (hX2 w os) (b0X hQ3 hN hC { line:=0,col:=0,endLine:=0,endCol:=0 } hF))=fun os=>some (.next,hX3 w os,hC,{ line:=46,col:=0,endLine:=47,endCol:=8 })
theorem iU (w:World):(fun os=>a9J treeTable PySem.Challenge.pw_struckdeeds_k75_books_as_texts (w.withFollow "special-get-raises" false) 11 (a2W (a0Z 6)) 1 640 (hX2 (w.withFollow "special-get-raises" false) os) (b0X hQ3 hN hC { line:=0,col:=0,endLine:=0,endCol:=0 } hF))=fun os=>some (.next,hX3 (w.withFollow "special-get-raises" false) os,hC,{ line:=46,col:=0,endLine:=47,endCol:=8 }):=by kernel_rfl
theorem nP (w:World):(fun os=>a9J treeTable PySem.Challenge.pw_struckdeeds_k75_books_as_texts (w.withFollow "special-get-raises" true) 11 (a2W (a0Z 6)) 1 640 (hX2 (w.withFollow "special-get-raises" true) os) (b0X hQ3 hN hC { line:=0,col:=0,endLine:=0,endCol:=0 } hF))=fun os=>some (.next,hX3 (w.withFollow "special-get-raises" true) os,hC,{ line:=46,col:=0,endLine:=47,endCol:=8 }):=by kernel_rfl
theorem hp3:∀w:World,A1A w:=PySem.W.byRow2 "special-get-raises" iU nP
def hQ4:List Stmt:=(hB.drop 18).take 3
theorem hp4 (w:World):(fun os=>a9J treeTable PySem.Challenge.pw_struckdeeds_k75_books_as_texts w 11 (a2W (a0Z 6)) 1 704 (hX3 w os) (b0X hQ4 hN hC { line:=46,col:=0,endLine:=47,endCol:=8 } hF))=fun os=>some (.next,hX4 w os,hC,{ line:=54,col:=0,endLine:=57,endCol:=24 }):=by kernel_rfl
def hQ5:List Stmt:=(hB.drop 21).take 12
theorem hp5 (w:World):(fun os=>a9J treeTable PySem.Challenge.pw_struckdeeds_k75_books_as_texts w 11 (a2W (a0Z 6)) 1 744 (hX4 w os) (b0X hQ5 hN hC { line:=54,col:=0,endLine:=57,endCol:=24 } hF))=fun os=>some (.next,hX5 w os,hC,{ line:=97,col:=0,endLine:=114,endCol:=27 }):=by kernel_rfl
def hQ6:List Stmt:=(hB.drop 33).take 34
theorem hp6 (w:World):(fun os=>a9J treeTable PySem.Challenge.pw_struckdeeds_k75_books_as_texts w 11 (a2W (a0Z 6)) 1 744 (hX5 w os) (b0X hQ6 hN hC { line:=97,col:=0,endLine:=114,endCol:=27 } hF))=fun os=>some (.next,hX6 w os,hC,{ line:=244,col:=0,endLine:=254,endCol:=98 }):=by kernel_rfl
def hQ7:List Stmt:=(hB.drop 67).take 8
theorem hp7 (w:World):(fun os=>a9J treeTable PySem.Challenge.pw_struckdeeds_k75_books_as_texts w 11 (a2W (a0Z 6)) 1 231 (hX6 w os) (b0X hQ7 hN hC { line:=244,col:=0,endLine:=254,endCol:=98 } hF))=fun os=>some (.next,hX7 w os,hC,{ line:=312,col:=0,endLine:=322,endCol:=15 }):=by kernel_rfl
theorem hp8 (w:World):(fun os=>a7Z treeTable PySem.Challenge.pw_struckdeeds_k75_books_as_texts w 11 (a2W (a0Z 6)) 2 (hX7 w os).abs (b3Q [] hN hC { line:=312,col:=0,endLine:=322,endCol:=15 } hF))=fun os=>some (hX8 w os).abs:=by kernel_rfl
theorem hR1:hB=(hQ3++(hQ4++(hQ5++(hQ6++(hQ7++[]))))):=by kernel_rfl
theorem hr8 (w:World) (os:OsState):a7Z treeTable PySem.Challenge.pw_struckdeeds_k75_books_as_texts w 11 (a2W (a0Z 6)) 2 (hX7 w os).abs (b3Q [] hN hC { line:=312,col:=0,endLine:=322,endCol:=15 } hF)=some (hX8 w os).abs:=congrFun (hp8 w) os
theorem hr7 (w:World) (os:OsState):a7Z treeTable PySem.Challenge.pw_struckdeeds_k75_books_as_texts w 11 (a2W (a0Z 6)) (231+2) (hX6 w os).abs (b3Q (hQ7++[]) hN hC { line:=244,col:=0,endLine:=254,endCol:=98 } hF)=some (hX8 w os).abs:=b5W (n:=231) (N:=2) (s:=(hX6 w os).abs) (s':=(hX7 w os).abs) (r:=(hX8 w os).abs) (l:=hQ7) (rest:=[]) (c:=hC) (pos:={ line:=244,col:=0,endLine:=254,endCol:=98 }) (p':={ line:=312,col:=0,endLine:=322,endCol:=15 }) (env:=hN) (q:={ line:=0,col:=0,endLine:=0,endCol:=0 }) (b2Q (congrFun (hp7 w) os)) (hr8 w os)
theorem hr6 (w:World) (os:OsState):a7Z treeTable PySem.Challenge.pw_struckdeeds_k75_books_as_texts w 11 (a2W (a0Z 6)) (744+(231+2)) (hX5 w os).abs (b3Q (hQ6++(hQ7++[])) hN hC { line:=97,col:=0,endLine:=114,endCol:=27 } hF)=some (hX8 w os).abs:=b5W (n:=744) (N:=(231+2)) (s:=(hX5 w os).abs) (s':=(hX6 w os).abs) (r:=(hX8 w os).abs) (l:=hQ6) (rest:=(hQ7++[])) (c:=hC) (pos:={ line:=97,col:=0,endLine:=114,endCol:=27 }) (p':={ line:=244,col:=0,endLine:=254,endCol:=98 }) (env:=hN) (q:={ line:=0,col:=0,endLine:=0,endCol:=0 }) (b2Q (congrFun (hp6 w) os)) (hr7 w os)
theorem hr5 (w:World) (os:OsState):a7Z treeTable PySem.Challenge.pw_struckdeeds_k75_books_as_texts w 11 (a2W (a0Z 6)) (744+(744+(231+2))) (hX4 w os).abs (b3Q (hQ5++(hQ6++(hQ7++[]))) hN hC { line:=54,col:=0,endLine:=57,endCol:=24 } hF)=some (hX8 w os).abs:=b5W (n:=744) (N:=(744+(231+2))) (s:=(hX4 w os).abs) (s':=(hX5 w os).abs) (r:=(hX8 w os).abs) (l:=hQ5) (rest:=(hQ6++(hQ7++[]))) (c:=hC) (pos:={ line:=54,col:=0,endLine:=57,endCol:=24 }) (p':={ line:=97,col:=0,endLine:=114,endCol:=27 }) (env:=hN) (q:={ line:=0,col:=0,endLine:=0,endCol:=0 }) (b2Q (congrFun (hp5 w) os)) (hr6 w os)
theorem hr4 (w:World) (os:OsState):a7Z treeTable PySem.Challenge.pw_struckdeeds_k75_books_as_texts w 11 (a2W (a0Z 6)) (704+(744+(744+(231+2)))) (hX3 w os).abs (b3Q (hQ4++(hQ5++(hQ6++(hQ7++[])))) hN hC { line:=46,col:=0,endLine:=47,endCol:=8 } hF)=some (hX8 w os).abs:=b5W (n:=704) (N:=(744+(744+(231+2)))) (s:=(hX3 w os).abs) (s':=(hX4 w os).abs) (r:=(hX8 w os).abs) (l:=hQ4) (rest:=(hQ5++(hQ6++(hQ7++[])))) (c:=hC) (pos:={ line:=46,col:=0,endLine:=47,endCol:=8 }) (p':={ line:=54,col:=0,endLine:=57,endCol:=24 }) (env:=hN) (q:={ line:=0,col:=0,endLine:=0,endCol:=0 }) (b2Q (congrFun (hp4 w) os)) (hr5 w os)
theorem hr3 (w:World) (os:OsState):a7Z treeTable PySem.Challenge.pw_struckdeeds_k75_books_as_texts w 11 (a2W (a0Z 6)) (640+(704+(744+(744+(231+2))))) (hX2 w os).abs (b3Q (hQ3++(hQ4++(hQ5++(hQ6++(hQ7++[]))))) hN hC { line:=0,col:=0,endLine:=0,endCol:=0 } hF)=some (hX8 w os).abs:=b5W (n:=640) (N:=(704+(744+(744+(231+2))))) (s:=(hX2 w os).abs) (s':=(hX3 w os).abs) (r:=(hX8 w os).abs) (l:=hQ3) (rest:=(hQ4++(hQ5++(hQ6++(hQ7++[]))))) (c:=hC) (pos:={ line:=0,col:=0,endLine:=0,endCol:=0 }) (p':={ line:=46,col:=0,endLine:=47,endCol:=8 }) (env:=hN) (q:={ line:=0,col:=0,endLine:=0,endCol:=0 }) (b2Q (congrFun (hp3 w) os)) (hr4 w os)
theorem hr2 (w:World) (os:OsState):a7Z treeTable PySem.Challenge.pw_struckdeeds_k75_books_as_texts w 11 (a2W (a0Z 6)) (1+(640+(704+(744+(744+(231+2)))))) (hX1 w os).abs ⟨denote treeTable hC,hC,{ line:=0,col:=0,endLine:=0,endCol:=0 },hF⟩=some (hX8 w os).abs:=PySem.W.piece_block (n:=1) (N:=(640+(704+(744+(744+(231+2)))))) (s:=(hX1 w os).abs) (s':=(hX2 w os).abs) (r:=(hX8 w os).abs) (b:=hB) (env:=hN) (c:=hC) (pos:={ line:=0,col:=0,endLine:=0,endCol:=0 }) (p':={ line:=0,col:=0,endLine:=0,endCol:=0 }) (q:={ line:=0,col:=0,endLine:=0,endCol:=0 }) (b2Q (congrFun (hp2 w) os)) (by rw[hR1];exact hr3 w os)
noncomputable def hH:Params->Heap:=fun P=>PySem.W.absHeap (hT7 P) 404 { }
theorem hr1 (w:World) (os:OsState):a7Z treeTable PySem.Challenge.pw_struckdeeds_k75_books_as_texts w 11 (a2W (a0Z 6)) (12+(1+(640+(704+(744+(744+(231+2))))))) ⟨a5K w.params,⟨[]⟩,b8K,b9V,os⟩ (PySem.W.topStub PySem.Challenge.pw_struckdeeds_k75_books_as_texts)=some (hX8 w os).abs:=PySem.W.go_top (n:=12) (N:=(1+(640+(704+(744+(744+(231+2))))))) (s':=(hX1 w os).abs) (t':=⟨denote treeTable hC,hC,{ line:=0,col:=0,endLine:=0,endCol:=0 },hF⟩) (congrFun (hp1 w) os) (hr2 w os)
theorem hR (w:World) (os:OsState):a7Z treeTable PySem.Challenge.pw_struckdeeds_k75_books_as_texts w 11 (a2W (a0Z 6)) (12+(1+(640+(704+(744+(744+(231+2))))))) ⟨a5K w.params,⟨[]⟩,b8K,b9V,os⟩ (PySem.W.topStub PySem.Challenge.pw_struckdeeds_k75_books_as_texts)=some ⟨hH w.params,⟨[]⟩,{ },764,os⟩:=(hr1 w os).trans (by kernel_rfl)
theorem hZ (w:World):(fun os=>((PySem.W.staticsOk (PySem.importedModules PySem.Challenge.pw_struckdeeds_k75_books_as_texts.main.body) (a5K w.params) (hH w.params)&&PySem.W.namesBound PySem.Challenge.pw_struckdeeds_k75_books_as_texts (hH w.params)&&PySem.W.gensDone ⟨hH w.params,⟨[]⟩,{ },764,os⟩&&PySem.W.laidKept (a5K w.params) (hH w.params)),PySem.W.openSeen hV [a0Q "FORMS", a0Q "GROUP"] (PySem.importedModules PySem.Challenge.pw_struckdeeds_k75_books_as_texts.main.body) (fun s=>PySem.W.xlAt hV [(a0Q "GROUP", b3V (1000000000000000000))] s&&PySem.W.recOk (b5V (b3K (b6Q PySem.Challenge.rw_struckdeeds_k75_books_as_texts))) s) true ⟨hH w.params,⟨[]⟩,{ },764,os⟩,b9Z (a7Q hK hA hE) ⟨hH w.params,⟨[]⟩,{ },764,os⟩))=fun _=>(true,PySem.W.openGood hV [a0Q "FORMS", a0Q "GROUP"],b9X (a7Q hK hA hE) w):=by kernel_rfl
theorem hO:PySem.W.opening PySem.Challenge.pw_struckdeeds_k75_books_as_texts=PySem.W.plainProg PySem.Challenge.pw_struckdeeds_k75_books_as_texts.main.scope.names:=by kernel_rfl
theorem hG (w:World):((a5K w.params).isNs mainGlobals&&(⟨[]⟩:Array GenState).size==0,(a5K w.params).objs.size,(a5K w.params).nsMap mainGlobals (a0Q "__annotations__"))=(true,11,a2W (a0Z 6)):=by kernel_rfl
theorem hJ (s:Shared):PySem.fenceModules? PySem.Challenge.pw_struckdeeds_k75_books_as_texts s=some s:=by kernel_rfl
theorem hL:PySem.W.LeftO PySem.Challenge.pw_struckdeeds_k75_books_as_texts hV [a0Q "FORMS", a0Q "GROUP"] (fun s=>PySem.W.xlAt hV [(a0Q "GROUP", b3V (1000000000000000000))] s&&PySem.W.recOk (b5V (b3K (b6Q PySem.Challenge.rw_struckdeeds_k75_books_as_texts))) s) (b9Z (a7Q hK hA hE)) (b9X (a7Q hK hA hE)) 6242:=
 @PySem.W.LeftO.of_pieces PySem.Challenge.pw_struckdeeds_k75_books_as_texts hV [a0Q "FORMS", a0Q "GROUP"] (fun s=>PySem.W.xlAt hV [(a0Q "GROUP", b3V (1000000000000000000))] s&&PySem.W.recOk (b5V (b3K (b6Q PySem.Challenge.rw_struckdeeds_k75_books_as_texts))) s) _ (b9Z (a7Q hK hA hE)) (b9X (a7Q hK hA hE)) 6242 true a5K hH ⟨[]⟩ ⟨[]⟩ b8K { } b9V 764 11 (a2W (a0Z 6)) (12+(1+(640+(704+(744+(744+(231+2))))))) (PySem.W.boot_open hO (by decide) hJ) hG hR (by decide) hZ
theorem hS:PySem.W.OpenLaw.wellSaid PySem.Challenge.rw_struckdeeds_k75_books_as_texts=true:=by kernel_rfl
set_option hygiene false
local macro_rules | `(tactic| walk_at "lc")=>`(tactic| first | exact Or.inl rfl | exact Or.inr rfl | exact Or.inr (Or.inl rfl) | exact Or.inr (Or.inr rfl))
local macro_rules | `(tactic| walk_at "or")=>`(tactic| first | exact .inl rfl | exact .inr rfl | assumption)
local macro_rules | `(tactic| walk_at "q")=>`(tactic| first | ((with_reducible show PSs _ [] _);exact @cU _) | ((with_reducible show PSs _ [_] _);exact @KF _ _ _ (by walk_at "s")) | ((with_reducible show PSs _ (_::_) _);exact @MC _ _ _ _ _ (by walk_at "s") (by walk_at "q")))
local macro_rules | `(tactic| walk_at "s")=>`(tactic| first | ((with_reducible show PS _ (.Assign [.Name ..] (.ListComp ..) _) _);exact @oP _ _ _ _ _ _ _ _ _ _ _ _ _ _ _ _ _ rfl (by assumption) (WK (by rfl)) (by walk_at "lc") (by walk_at "cs") (by walk_at "n") (fun C s' H' ex' pn'=>⟨(by walk_at "g"),(by walk_at "u"),(by walk_at "e")⟩) rfl (by walk_at "or") (by intro _;rfl)) | ((with_reducible show PS _ (.Assign [.Name ..] ..) _);exact @tQ _ _ _ _ _ _ _ (by assumption) (WK (by rfl)) (by walk_at "lc") (by walk_at "e") (by rfl) (by walk_at "or")) | ((with_reducible show PS _ (.If ..) _);first | walk_at "z" | exact @j4 _ _ _ _ _ _ _ _ (by walk_at "t") (by walk_at "q") (by walk_at "q")) | ((with_reducible show PS _ (.Return (some _) _) _);exact @Q8 _ _ _ _ (by walk_at "e")) | ((with_reducible show PS _ (.For ..) _);exact @tS _ _ _ _ _ _ _ _ PassesOwn.never rfl (by walk_at "n") (by walk_at "g") (by walk_at "q") (by intro _;rfl)) | ((with_reducible show PS _ (.Expr ..) _);exact @nV _ _ _ _ (by walk_at "e") (by rfl)) | ((with_reducible show PS _ (.Raise ..) _);exact @j5 _ _) | walk_at "x")
local macro_rules | `(tactic| walk_at "e")=>`(tactic| first | ((with_reducible show PE _ (.Name ..) _);first | exact @pvx _ _ _ _ (by rfl) (by walk_at "lc") (by decide) (by decide) | exact @pI _ _ _ _ (by rfl) (by assumption) (by decide) | exact @pH _ _ _ _ (by rfl) (by assumption) (by decide) | exact @G7 _ _ (.ty "int") _ _ (by rfl) (by assumption) PyProof.Rows.boot_int rfl (by decide) (by decide) | exact @G7 _ _ (.ty "str") _ _ (by rfl) (by assumption) b0K rfl (by decide) (by decide) | exact @G7 _ _ (.ty "bool") _ _ (by rfl) (by assumption) PyProof.Rows.boot_bool rfl (by decide) (by decide) | exact @G7 _ _ (.ty "list") _ _ (by rfl) (by assumption) PyProof.Rows.boot_list rfl (by decide) (by decide) | exact @G7 _ _ (.ty "tuple") _ _ (by rfl) (by assumption) b8W rfl (by decide) (by decide) | exact @G7 _ _ (.ty "dict") _ _ (by rfl) (by assumption) PyProof.Rows.boot_dict rfl (by decide) (by decide) | exact @G7 _ _ (.ty "ValueError") _ _ (by rfl) (by assumption) PyProof.Rows.boot_ValueError rfl (by decide) (by decide)) | ((with_reducible show PE _ (.ListComp ..) _);exact @dG _ _ _ _ _ _ _ _ _ _ _ _ _ rfl (by walk_at "cs") (by walk_at "n") (fun C s' H' ex' pn'=>⟨(by walk_at "g"),(by walk_at "u"),(by walk_at "e")⟩) (by intro _;rfl)) | ((with_reducible show PE _ (.DictComp ..) _);exact @m3 _ _ _ _ _ _ _ _ _ _ _ _ _ _ _ rfl hu1 (by walk_at "cs") (by walk_at "n") (fun C s' H' ex' pn'=>⟨(by walk_at "g"),(by walk_at "u"),(by walk_at "e"),(by walk_at "e")⟩) (by intro _;rfl)) | ((with_reducible show PE _ (.Constant ..) _);first | ((with_reducible show PE _ (.Constant (.int _) ..) _);exact @NR _ _ _ _) | ((with_reducible show PE _ (.Constant (.str _) ..) _);exact @tH _ _ _ _) | ((with_reducible show PE _ (.Constant (.bool _) ..) _);exact @rS _ _ _ _) | ((with_reducible show PE _ (.Constant .none ..) _);exact @tG _ _ _)) | ((with_reducible show PE _ (.Call ..) _);first | walk_at "y" | ((with_reducible show PE _ (.Call (.Name (a0Q "len") _) ..) _);exact @D3 _ _ _ _ _ _ _ _ _ (@A0Q _ K rfl) (by rfl) (by assumption) PySem.boot_len (by walk_at "a") (by decide) (by decide) (by rfl) (by rfl)) | ((with_reducible show PE _ (.Call (.Name (a0Q "isinstance") _) ..) _);exact @D3 _ _ _ _ _ _ _ _ _ (@A0S _ K rfl) (by rfl) (by assumption) PyProof.Rows.boot_isinstance (by walk_at "a") (by decide) (by decide) (by rfl) (by rfl)) | ((with_reducible show PE _ (.Call (.Name (a0Q "all") _) ..) _);exact @D3 _ _ _ _ _ _ _ _ _ (@A0R _ K rfl rfl) (by rfl) (by assumption) PyProof.Rows.boot_all (by walk_at "a") (by decide) (by decide) (by rfl) (by rfl)) | ((with_reducible show PE _ (.Call (.Name (a0Q "sorted") _) ..) _);exact @D3 _ _ _ _ _ _ _ _ _ (@wR _ K rfl rfl) (by rfl) (by assumption) PyProof.Rows.boot_sorted (by walk_at "a") (by decide) (by decide) (by rfl) (by rfl)) | ((with_reducible show PE _ (.Call (.Name (a0Q "divmod") _) ..) _);exact @D3 _ _ _ _ _ _ _ _ _ (@pT _ K rfl) (by rfl) (by assumption) PyProof.Rows.boot_divmod (by walk_at "a") (by decide) (by decide) (by rfl) (by rfl)) | ((with_reducible show PE _ (.Call (.Name (a0Q "sum") _) ..) _);exact @D3 _ _ _ _ _ _ _ _ _ (@A07 _ K rfl rfl) (by rfl) (by assumption) PyProof.Rows.boot_sum (by walk_at "a") (by decide) (by decide) (by rfl) (by rfl)) | ((with_reducible show PE _ (.Call (.Name (a0Q "tuple") _) ..) _);exact @FK _ _ _ _ _ _ _ _ _ (@vM _ K rfl) (by rfl) (by assumption) b8W (by walk_at "a") (by decide) (by decide) (by rfl) (by rfl)) | ((with_reducible show PE _ (.Call (.Name (a0Q "int") _) ..) _);exact @FK _ _ _ _ _ _ _ _ _ (@A06 _ K rfl) (by rfl) (by assumption) PyProof.Rows.boot_int (by walk_at "a") (by decide) (by decide) (by rfl) (by rfl)) | ((with_reducible show PE _ (.Call (.Name ..) ..) _);exact @UC _ K P w mg base _ _ _ _ _ _ _ _ _ rfl rfl rfl rfl rfl (by with_reducible assumption) (hr.mono (by decide)) rfl (by walk_at "a") (by decide) (by rfl) (by rfl)) | ((with_reducible show PE _ (.Call (.Attribute _ (a0Q "append") _) ..) _);exact @kBm _ K _ _ _ _ _ _ _ _ _ _ _ rfl PySem.F.plainAttrs_list PySem.F.slot_list_append PySem.F.type_list_append (@kZ _) (by walk_at "e") (by walk_at "a") (by rfl) (by rfl) (by rfl) (by rfl) (by rfl)) | walk_at "x") | ((with_reducible show PE _ (.BinOp ..) _);first | ((with_reducible show PE _ (.BinOp _ .Add ..) _);exact @OF _ _ _ _ _ _ _ _ (@A0U _ K rfl) (by walk_at "e") (by walk_at "e")) | ((with_reducible show PE _ (.BinOp _ .Sub ..) _);exact @OF _ _ _ _ _ _ _ _ (@tV _) (by walk_at "e") (by walk_at "e")) | ((with_reducible show PE _ (.BinOp _ .Mod ..) _);exact @OF _ _ _ _ _ _ _ _ (@tX _) (by walk_at "e") (by walk_at "e")) | ((with_reducible show PE _ (.BinOp _ .FloorDiv ..) _);exact @OF _ _ _ _ _ _ _ _ (@jT _) (by walk_at "e") (by walk_at "e")) | ((with_reducible show PE _ (.BinOp _ .Pow ..) _);exact @OF _ _ _ _ _ _ _ _ (@tY _) (by walk_at "e") (by walk_at "e"))) | ((with_reducible show PE _ (.Compare ..) _);first | walk_at "y" | ((with_reducible show PE _ (.Compare _ [.Eq] ..) _);exact @E5 _ _ _ _ _ _ _ _ (@kEq _ K rfl hu) (by walk_at "e") (by walk_at "e") (@BZ _ _ (by decide) (by decide))) | ((with_reducible show PE _ (.Compare _ [.NotEq] ..) _);exact @E5 _ _ _ _ _ _ _ _ (@kNe _ K rfl hu) (by walk_at "e") (by walk_at "e") (@BZ _ _ (by decide) (by decide))) | ((with_reducible show PE _ (.Compare _ [.Lt] ..) _);exact @E5 _ _ _ _ _ _ _ _ (@aS _) (by walk_at "e") (by walk_at "e") (@BZ _ _ (by decide) (by decide))) | ((with_reducible show PE _ (.Compare _ [.Is] ..) _);exact @E5 _ _ _ _ _ _ _ _ (@lW _) (by walk_at "e") (by walk_at "e") (@BZ _ _ (by decide) (by decide))) | ((with_reducible show PE _ (.Compare _ [.IsNot] ..) _);exact @E5 _ _ _ _ _ _ _ _ (@eF _) (by walk_at "e") (by walk_at "e") (@BZ _ _ (by decide) (by decide))) | ((with_reducible show PE _ (.Compare _ [.Gt] ..) _);exact @E5 _ _ _ _ _ _ _ _ (@rZ _) (by walk_at "e") (by walk_at "e") (@BZ _ _ (by decide) (by decide))) | ((with_reducible show PE _ (.Compare _ [.GtE] ..) _);exact @E5 _ _ _ _ _ _ _ _ (@sC _) (by walk_at "e") (by walk_at "e") (@BZ _ _ (by decide) (by decide)))) | ((with_reducible show PE _ (.Subscript ..) _);first | ((with_reducible show PE _ (.Subscript _ (.Slice _ _ none _) _) _);exact @XN _ _ _ _ _ _ _ _ _ _ (@A0V _ K rfl) (by walk_at "e") (by walk_at "o") (by walk_at "o")) | walk_at "y" | exact @dD _ _ _ _ _ _ _ (@kIx _ K rfl) (by walk_at "e") (by walk_at "e") (fun _ _=>rfl)) | ((with_reducible show PE _ (.Tuple ..) _);exact @u5 _ _ _ _ _ (by walk_at "a")) | ((with_reducible show PE _ (.List ..) _);exact @u6 _ _ _ _ (by walk_at "a")) | ((with_reducible show PE _ (.IfExp ..) _);exact @j3 _ _ _ _ _ _ _ _ (by walk_at "t") (by walk_at "e") (by walk_at "e")) | ((with_reducible show PE _ (.BoolOp ..) _);first | ((with_reducible show PE _ (.BoolOp _ [_] _) _);exact @j2 _ _ _ _ _ (by walk_at "e")) | ((with_reducible show PE _ (.BoolOp .Or ..) _);exact @xU _ _ _ _ _ _ _ (by walk_at "e") (by walk_at "e")) | exact @aE _ _ _ _ _ _ _ (by walk_at "e") (by walk_at "e")) | ((with_reducible show PE _ (.UnaryOp ..) _);first | ((with_reducible show PE _ (.UnaryOp .Not ..) _);exact @tK _ _ _ _ (by walk_at "e")) | exact @yC _ _ _ _ _ _ (@tZ _) (by walk_at "e")) | walk_at "x")
local macro_rules | `(tactic| walk_at "t")=>`(tactic| first | ((with_reducible show PT _ (.Compare ..) _);first | walk_at "y" | ((with_reducible show PT _ (.Compare _ [.Eq] ..) _);exact @CG _ _ _ _ _ _ _ _ (@kEq _ K rfl hu) (by walk_at "e") (by walk_at "e") (@BZ _ _ (by decide) (by decide))) | ((with_reducible show PT _ (.Compare _ [.NotEq] ..) _);exact @CG _ _ _ _ _ _ _ _ (@kNe _ K rfl hu) (by walk_at "e") (by walk_at "e") (@BZ _ _ (by decide) (by decide))) | ((with_reducible show PT _ (.Compare _ [.Lt] ..) _);exact @CG _ _ _ _ _ _ _ _ (@aS _) (by walk_at "e") (by walk_at "e") (@BZ _ _ (by decide) (by decide))) | ((with_reducible show PT _ (.Compare _ [.Is] ..) _);exact @CG _ _ _ _ _ _ _ _ (@lW _) (by walk_at "e") (by walk_at "e") (@BZ _ _ (by decide) (by decide))) | ((with_reducible show PT _ (.Compare _ [.IsNot] ..) _);exact @CG _ _ _ _ _ _ _ _ (@eF _) (by walk_at "e") (by walk_at "e") (@BZ _ _ (by decide) (by decide))) | ((with_reducible show PT _ (.Compare _ [.Gt] ..) _);exact @CG _ _ _ _ _ _ _ _ (@rZ _) (by walk_at "e") (by walk_at "e") (@BZ _ _ (by decide) (by decide))) | ((with_reducible show PT _ (.Compare _ [.GtE] ..) _);exact @CG _ _ _ _ _ _ _ _ (@sC _) (by walk_at "e") (by walk_at "e") (@BZ _ _ (by decide) (by decide))) | walk_at "x") | ((with_reducible show PT _ (.BoolOp ..) _);exact @L2.PW.pt _ _ _ (by walk_at "w")) | ((with_reducible show PT _ (.UnaryOp .Not ..) _);exact @j1 _ _ _ _ (by walk_at "t")) | exact @j0 _ _ _ (by walk_at "e") (by intro _;rfl))
local macro_rules | `(tactic| walk_at "w")=>`(tactic| first | ((with_reducible show PW _ (.BoolOp .Or ..) _);first | ((with_reducible show PW _ (.BoolOp _ [_] _) _);exact @pw_or1 _ _ _ _ (by walk_at "t")) | exact @pw_or _ _ _ _ _ _ _ (by walk_at "t") (by walk_at "w")) | ((with_reducible show PW _ (.BoolOp _ [_] _) _);exact @pw_and1 _ _ _ _ (by walk_at "t")) | exact @pw_and _ _ _ _ _ _ _ (by walk_at "t") (by walk_at "w"))
local macro_rules | `(tactic| walk_at "a")=>`(tactic| first | ((with_reducible show PA _ [] _);exact @FO _) | exact @CH _ _ _ _ _ (by walk_at "e") (by walk_at "a") (by rfl))
local macro_rules | `(tactic| walk_at "o")=>`(tactic| first | ((with_reducible show PO _ none _);exact @dA _) | exact @dB _ _ _ (by walk_at "e"))
local macro_rules | `(tactic| walk_at "u")=>`(tactic| first | ((with_reducible show PTs _ [] _);exact @dF _) | exact @oO _ _ _ (by walk_at "t"))
local macro_rules | `(tactic| walk_at "n")=>`(tactic| first | ((with_reducible show PI _ _ (.Call ..) _);first | ((with_reducible show PI _ _ (.Call (.Name (a0Q "range") _) [_] ..) _);exact @fZ _ _ _ _ _ _ rfl (by assumption) (by walk_at "a") (by rfl)) | walk_at "x") | walk_at "y" | exact @A0T _ K _ _ _ rfl (by walk_at "e"))
local macro_rules | `(tactic| walk_at "g")=>`(tactic| first | ((with_reducible show PG _ (.Name ..) _);exact @CZ _ _ _ _ (by assumption) (WK (by rfl)) (by walk_at "lc") (by walk_at "or")) | walk_at "x")
local macro_rules | `(tactic| walk_at "j")=>`(tactic| first | ((with_reducible show PGs _ [] _);exact @MD _) | exact @CN _ _ _ _ _ (by walk_at "g") (by walk_at "j") (by rfl))
local macro_rules | `(tactic| walk_at "b1")=>`(tactic| exact @KF _ _ _ (by walk_at "s"))
local macro_rules | `(tactic| walk_at "b2")=>`(tactic| exact @MC _ _ _ _ _ (by walk_at "s") (by walk_at "q"))
local macro_rules | `(tactic| walk_at "dl")=>`(tactic| first
 | (with_reducible first | refine jY ?_ | refine dx_seq ?_ | refine jX ?_ | refine dM ?_ | refine jW ?_ | refine A0M ?_ | refine dL ?_ | refine dJ ?_ | refine ds_setitem ?_ | refine m9 ?_ | refine dx_if ?_ | refine dx_raise1 ?_ | refine dx_raise0 ?_ | refine dx_drop (dex_call ?_) | refine dx_set (dex_call ?_) | refine dx_ret (dex_call ?_) | refine dx_lift (jX ?_) | refine dx_lift (dM ?_) | refine dx_lift (jW ?_) | refine dx_lift (dL ?_) | refine dx_lift (dJ ?_) | refine dx_lift (ds_setitem ?_) | refine dx_lift (m9 ?_))
 | ((with_reducible apply uQ);exact rfl)
 | (with_reducible first | refine uR ?_ | refine A0D ?_ | refine uS ?_ | refine uT ?_ | refine wB ?_ | refine wE ?_ | refine d2_leI ?_ | refine de_cref ?_ | refine A0E ?_ | refine A0F ?_ | refine A0G ?_ | refine jV ?_ | refine oT ?_ | refine A00 ?_ | refine uU ?_ | refine A0H ?_ | refine uV ?_ | refine uW ?_ | refine uX ?_ | refine A0I ?_ | refine uY ?_ | refine A0J ?_ | refine uZ ?_ | refine oU ?_ | refine A0K ?_ | refine v0 ?_ | refine A0L ?_ | refine oX ?_ | refine oY ?_ | refine pC ?_ | refine J9 ?_ | refine VQ ?_)
 | ((with_reducible refine vO ?_ ?_);exact rfl)
 | ((with_reducible refine qG ?_ ?_);exact rfl)
 | (with_reducible first | refine A0N ?_ | refine A0O ?_ | refine A01 ?_ | refine kR ?_ | refine pF ?_)
 | ((with_reducible refine A0P ?_ ?_);(first
     | ((with_reducible show CMul _ _);first | exact kS (by decide) (by decide) | exact cmul_l (by decide) (by decide) | exact cmul_l (by omega) (by omega))
     | ((with_reducible show sM _ _);first | exact⟨by decide,by decide⟩ | exact⟨by assumption,by assumption⟩)
     | ((with_reducible show yO _ _);exact⟨by decide,by decide,by decide⟩)
     | (show(0:Int) < _;first | decide | assumption | omega)))
 | ((with_reducible apply dO);(first | assumption | exact zU);exact rfl)
 | ((with_reducible apply A03);(first | assumption | exact zU);exact rfl)
 | ((with_reducible refine l5 ?_ ?_);(first | exact CMul.ok (kS (by decide) (by decide)) | exact CMul.ok (cmul_l (by decide) (by decide))))
 | (with_reducible first | refine d2_isB ?_ | refine d2_notB ?_ | refine rd_max ?_ | refine rd_min ?_ | refine pU ?_ | refine l6 ?_ | refine rd_abs ?_)
 | ((with_reducible refine kG (b:=true) ?_ ?_);exact rfl)
 | ((with_reducible refine kG (b:=false) ?_ ?_);exact rfl)
 | with_reducible refine oW ?_
 | ((with_reducible apply A04);exact rfl;exact yD rfl)
 | (with_reducible refine Exists.intro _ (And.intro rfl ?_))
 | (with_reducible refine L2.oK ?_)
 | (with_reducible refine L2.oJ ?_)
 | (refine L2.oK ?_)
 | (refine L2.oJ ?_))
local macro_rules | `(tactic| walk_at "r")=>`(tactic| repeat walk_at "dl")
local macro_rules | `(tactic| walk_at "wkd")=>`(tactic| repeat (first | walk_at "dl" | refine CA ?_ | refine de_dnew ?_))
local macro_rules | `(tactic| walk_at "wks")=>`(tactic| repeat ((fail_if_success (with_reducible show DSt _ _ _ _ _));(first | walk_at "dl" | refine CA ?_ | refine de_dnew ?_)))
section
variable {P:Program}{w:World}{K:Frg}{mg:Str->Option Value}{base:Heap}
def ZR:List Str:=["thing"]
theorem OX:FnScope ZR ["thing"] (AA IK):=⟨rfl,rfl,rfl,by decide +kernel,rfl,by decide +kernel,by decide +kernel⟩
theorem ZS {f:Addr}{fd:FuncData}(F:Fun K "is_whole" "is_whole" IK f fd) (n_bool:mg "bool"=none) (n_int:mg "int"=none) (n_isinstance:mg "isinstance"=none):FnOk P w K mg base CX0 1 f fd ["thing"] (spD K 1 FS):=by
 refine fnD F OX fun cdv A outer s H E hr=>?_
 have hu:=hr.units
 have nd:=OX.nd
 refine⟨_,by walk_at "b1", ?_⟩
 clear nd
 rintro xs M hl ⟨d,rfl,-⟩
 walk_at "dl";walk_at "dl";walk_at "dl"
 cases d <;>
 · walk_at "r"
   exact⟨M,zT M,fun d' e=>by cases e;exact⟨rfl,rfl⟩⟩
def WW:List Str:=["thing", "low", "high"]
theorem N6:FnScope WW ["thing", "low", "high"] (AA GE):=⟨rfl,rfl,rfl,by decide +kernel,rfl,by decide +kernel,by decide +kernel⟩
section
local macro_rules | `(tactic| walk_at "x")=>`(tactic| first | ((with_reducible show PE _ (.Compare _ [_,_] ..) _);exact @jB _ _ _ _ _ _ _ _ _ _ _ _ (@XH _) (@XH _) (by walk_at "e") (by walk_at "e") (by walk_at "e") (by with_unfolding_all rfl)))
theorem WX {f:Addr}{fd:FuncData}(F:Fun K "is_within" "is_within" GE f fd) (h_is_whole:Has P w K mg base "is_whole" 1 ["thing"] FS):FnOk P w K mg base CX0 2 f fd ["thing", "low", "high"] (spD K 3 EB):=by
 refine fnD F N6 fun cdv A outer s H E hr=>?_
 have hu:=hr.units
 have nd:=N6.nd
 refine⟨_,by walk_at "b1", ?_⟩
 clear nd
 rintro xs M hl ⟨d,lo,hi,rfl⟩
 walk_at "r"
 refine AF trivial ?_
 cases d
 case int i=>
   walk_at "r"
   refine jQ (fun h=>?_) (fun h=>?_)
   · walk_at "r"
     exact⟨M,zT M,fun d' lo' hi' e=>by cases e;refine⟨?_,rfl⟩;simp only[ML];rw[h];rfl⟩
   · exact⟨M,zT M,fun d' lo' hi' e=>by cases e;refine⟨?_,rfl⟩;simp only[ML];simp at h;simp;omega⟩
 all_goals
   walk_at "r"
   exact⟨M,zT M,fun d' lo' hi' e=>by cases e;exact⟨rfl,rfl⟩⟩
end
def ZT:List Str:=["thing"]
theorem OY:FnScope ZT ["thing"] (AA IL):=⟨rfl,rfl,rfl,by decide +kernel,rfl,by decide +kernel,by decide +kernel⟩
theorem ZU {f:Addr}{fd:FuncData}(F:Fun K "is_place" "is_place" IL f fd) (g_LAST_PLACE:∃t,mg "LAST_PLACE"=some (.int (999) t)) (h_is_within:Has P w K mg base "is_within" 2 ["thing", "low", "high"] EB):FnOk P w K mg base CX0 3 f fd ["thing"] (spD K 1 HQ):=by
 refine fnD F OY fun cdv A outer s H E hr=>?_
 have hu:=hr.units
 have nd:=OY.nd
 refine⟨_,by walk_at "b1", ?_⟩
 clear nd
 rintro xs M hl ⟨d,rfl,-⟩
 walk_at "r"
 refine Y5 ?_
 exact⟨M,zT M,fun d' e=>by cases e;exact⟨by rw[VR],rfl⟩⟩
def SF:List Str:=["thing"]
def N7:List Str:=["sign"]
def N8:List (Option Nat):=[none]
theorem WY:N7.Nodup:=by decide +kernel
theorem SG:FnScope SF ["thing"] (AA HJ):=⟨rfl,rfl,rfl,by decide +kernel,rfl,by decide +kernel,by decide +kernel⟩
section
local macro_rules | `(tactic| walk_at "cs")=>`(tactic| first | exact @FY _ _ N7 N8 (AA HJ) SF (by decide +kernel) (by decide +kernel) rfl rfl)
local macro_rules | `(tactic| walk_at "x")=>`(tactic| first | ((with_reducible show PT _ (.Compare _ [_,_] ..) _);exact @jC _ _ _ _ _ _ _ _ _ _ _ _ (@XH _) (@XH _) (by walk_at "e") (by walk_at "e") (by walk_at "e") (by with_unfolding_all rfl)) | ((with_reducible show PE _ (.Compare _ [.In] ..) _);exact @E5 _ _ _ _ _ _ _ _ (@kIn _ K rfl) (by walk_at "e") (by walk_at "e") (by with_unfolding_all rfl)))
theorem cL {f:Addr}{fd:FuncData}(F:Fun K "is_name" "is_name" HJ f fd) (n_all:mg "all"=none) (n_isinstance:mg "isinstance"=none) (n_len:mg "len"=none) (n_str:mg "str"=none) (g_LETTERS:∃t,mg "LETTERS"=some (.str ("abcdefghijklmnopqrstuvwxyz") t)) (g_LONGEST_NAME:∃t,mg "LONGEST_NAME"=some (.int (8) t)):FnOk P w K mg base CX0 1 f fd ["thing"] (spD K 1 GW):=by
 refine fnD F SG fun cdv A outer s H E hr=>?_
 have hu:=hr.units
 have nd:=SG.nd
 have n0:=WY
 refine⟨_,by walk_at "b2", ?_⟩
 clear nd n0
 rintro xs M hl ⟨d,rfl,hd⟩
 cases d
 case str z=>
   have hz:z.length<=sizeLine:=zN hd.1 (by decide)
   have hlen:(z.length:Int)=(z.cps.size:Int):=rfl
   walk_at "r"
   refine MJ hz ?_
   walk_at "r"
   refine jQ (fun h1=>?_) (fun h1=>?_)
   · walk_at "r"
     refine jQ (fun h2=>?_) (fun h2=>?_)
     · walk_at "r"
       exact⟨M,zT M,fun d' e=>by cases e;refine⟨?_,rfl⟩;simp only[BK];simp at h1 h2;rw[hlen] at h1 h2;simp;omega⟩
     · walk_at "r"
       refine AE (B3 0) (by simp[N8]) ?_
       refine VO ?_
       walk_at "r"
       refine⟨by simp only[AK,zX,a0K];exact zQ hd.1 (by decide),fun _=>true,fun d=>.bool (pN d),?_,?_⟩
       · intro d hd' M'
         obtain⟨c,hc,rfl⟩:=zL.mp hd'
         walk_at "dl"
         refine⟨rfl,?_⟩
         walk_at "dl"
         refine⟨rfl,rfl,fun _=>?_⟩
         walk_at "r"
         refine dP ?_
         rw[aU c (hd.2 c hc)]
         exact⟨by simp[pN],rfl⟩
       · walk_at "r"
         rw[gR]
         refine QO ?_
         rw[aV]
         exact⟨M,zT M,fun d' e=>by cases e;refine⟨?_,rfl⟩;simp only[BK];simp at h1 h2;rw[hlen] at h1 h2;simp;omega⟩
   · walk_at "r"
     exact⟨M,zT M,fun d' e=>by cases e;refine⟨?_,rfl⟩;simp only[BK];simp at h1;rw[hlen] at h1;simp;omega⟩
 all_goals
   walk_at "r"
   exact⟨M,zT M,fun d' e=>by cases e;exact⟨rfl,rfl⟩⟩
end
def cM:List Str:=["word"]
theorem SH:FnScope cM ["word"] (AA KQ):=⟨rfl,rfl,rfl,by decide +kernel,rfl,by decide +kernel,by decide +kernel⟩
section
local macro_rules | `(tactic| walk_at "x")=>`(tactic| first | ((with_reducible show PE _ (.Call (.Attribute _ (a0Q "get") _) ..) _);exact @pP _ _ _ _ _ _ _ _ rfl g_FORMS (by walk_at "e") (@L2.M1.mk _ _ _ _ _ _ rfl rfl rfl rfl) (by decide)))
theorem cN {f:Addr}{fd:FuncData}(F:Fun K "form_of" "form_of" KQ f fd) (n_isinstance:mg "isinstance"=none) (n_str:mg "str"=none) (g_FORMS:∃a,mg "FORMS"=some (.ref a)/\GDict w K a F0):FnOk P w K mg base CX0 1 f fd ["word"] (spD K 1 HA):=by
 refine fnD F SH fun cdv A outer s H E hr=>?_
 have hu:=hr.units
 have nd:=SH.nd
 refine⟨_,by walk_at "b1", ?_⟩
 clear nd
 rintro xs M hl ⟨d,rfl,-⟩
 cases d
 case str z=>
   walk_at "r"
   refine pQ ?_
   walk_at "r"
   exact⟨M,zT M,fun d' e=>by cases e;exact⟨rfl,rfl⟩⟩
 all_goals
   walk_at "r"
   exact⟨M,zT M,fun d' e=>by cases e;exact⟨rfl,rfl⟩⟩
end
def rO:List Str:=["sign", "part"]
theorem fS:FnScope rO ["sign", "part"] (AA WU):=⟨rfl,rfl,rfl,by decide +kernel,rfl,by decide +kernel,by decide +kernel⟩
theorem rP {f:Addr}{fd:FuncData}(F:Fun K "fits" "fits" WU f fd) (h_is_name:Has P w K mg base "is_name" 1 ["thing"] GW) (h_is_place:Has P w K mg base "is_place" 3 ["thing"] HQ) (h_is_whole:Has P w K mg base "is_whole" 1 ["thing"] FS):FnOk P w K mg base CX0 4 f fd ["sign", "part"] (spD K 2 bZ):=by
 refine fnD F fS fun cdv A outer s H E hr=>?_
 have hu:=hr.units
 have nd:=fS.nd
 refine⟨_,by walk_at "b2", ?_⟩
 clear nd
 rintro xs M hl ⟨a,b,rfl,c,rfl,hc,hb⟩
 have hsh:zH (.str ⟨#[c]⟩)=true:=BX (by show b4Q _=true;simp[b4Q];omega) (by simp[a4V])
 walk_at "r"
 refine AQ hsh (by decide +kernel) ?_
 rw[if_neg nft,D8]
 cases h1:((⟨#[c]⟩:Str)==a0Q "n") with
 | true=>
   walk_at "r"
   refine AF hb ?_
   exact⟨M,zT M,fun a b e=>by cases e;exact⟨by simp only[MV,h1];rfl,rfl⟩⟩
 | false=>
   walk_at "r"
   refine AQ hsh (by decide +kernel) ?_
   rw[if_neg nft,D8]
   cases h2:((⟨#[c]⟩:Str)==a0Q "p") with
   | true=>
     walk_at "r"
     refine AF trivial ?_
     exact⟨M,zT M,fun a b e=>by cases e;exact⟨by simp only[MV,h1,h2];rfl,rfl⟩⟩
   | false=>
     walk_at "r"
     refine AF trivial ?_
     exact⟨M,zT M,fun a b e=>by cases e;exact⟨by simp only[MV,h1,h2];rfl,rfl⟩⟩
def ZV:List Str:=["deed"]
theorem OZ:FnScope ZV ["deed"] (AA IM):=⟨rfl,rfl,rfl,by decide +kernel,rfl,by decide +kernel,by decide +kernel⟩
section
local macro_rules | `(tactic| walk_at "x")=>`(tactic| first | ((with_reducible show PE _ (.Call (.Attribute _ (a0Q "startswith") _) ..) _);exact @kBm _ K _ _ _ _ _ _ _ _ _ _ _ rfl a1Q b7J b7Z (@JE _ K rfl) (by walk_at "e") (by walk_at "a") (by rfl) (by rfl) (by rfl) (by rfl) (by rfl)))
theorem ZW {f:Addr}{fd:FuncData}(F:Fun K "names_in" "names_in" IM f fd) (h_form_of:Has P w K mg base "form_of" 1 ["word"] HA):FnOk P w K mg base CX0 2 f fd ["deed"] (spD K 1 IA):=by
 refine fnD F OZ fun cdv A outer s H E hr=>?_
 have hu:=hr.units
 have nd:=OZ.nd
 refine⟨_,by walk_at "b1", ?_⟩
 clear nd
 rintro xs M hl ⟨d,rfl,w,f,r,rfl,hf⟩
 obtain⟨fa,fs,fn,_,_⟩:=LT hf
 have hform:OP (.str w) = .str f:=by
   show aZ (F0.lookup w)=_
   rw[hf];rfl
 walk_at "r"
 refine CO ?_
 walk_at "r"
 refine AB (d:=.str w) (AC (j:=0) rfl) ?_
 walk_at "r"
 refine AF trivial ?_
 rw[hform]
 refine⟨BI,?_⟩
 walk_at "r"
 refine NZ ?_
 rw[fn]
 cases htw:YZ w with
 | true=>
   walk_at "r"
   refine JC ?_
   rw[show EA (a0X w::r) (some 1) (some 3)=r.take 2 from VT _ 1 3]
   exact⟨M,zT M,fun d' e=>by cases e;refine⟨?_,rfl⟩;simp only[RO,htw];rfl⟩
 | false=>
   walk_at "r"
   refine JC ?_
   rw[show EA (a0X w::r) (some 1) (some 2)=r.take 1 from VT _ 1 2]
   exact⟨M,zT M,fun d' e=>by cases e;refine⟨?_,rfl⟩;simp only[RO,htw];rfl⟩
end
def SJ:List Str:=["thing", "form", "names"]
def N9:List Str:=["sign", "part"]
def NA:List (Option Nat):=[none,none]
theorem WZ:N9.Nodup:=by decide +kernel
theorem SK:FnScope SJ ["thing"] (AA HK):=⟨rfl,rfl,rfl,by decide +kernel,rfl,by decide +kernel,by decide +kernel⟩
section
local macro_rules | `(tactic| walk_at "cs")=>`(tactic| first | exact @FY _ _ N9 NA (AA HK) SJ (by decide +kernel) (by decide +kernel) rfl rfl)
local macro_rules | `(tactic| walk_at "x")=>`(tactic| first | ((with_reducible show PI _ _ (.Call (.Name (a0Q "zip") _) ..) _);exact @A0j _ K _ _ _ _ _ _ _ _ rfl rfl n_zip (by walk_at "a") (by rfl) (by rfl)) | ((with_reducible show PG _ (.Tuple ..) _);exact @MK _ K _ _ _ _ (2) rfl rfl (by walk_at "j") (by rfl) (by rfl)))
theorem cO {f:Addr}{fd:FuncData}(F:Fun K "is_deed" "is_deed" HK f fd) (n_all:mg "all"=none) (n_isinstance:mg "isinstance"=none) (n_len:mg "len"=none) (n_tuple:mg "tuple"=none) (n_zip:mg "zip"=none) (h_fits:Has P w K mg base "fits" 4 ["sign", "part"] bZ) (h_form_of:Has P w K mg base "form_of" 1 ["word"] HA) (h_names_in:Has P w K mg base "names_in" 2 ["deed"] IA):FnOk P w K mg base CX0 5 f fd ["thing"] (spD K 1 FM):=by
 refine fnD F SK fun cdv A outer s H E hr=>?_
 have hu:=hr.units
 have nd:=SK.nd
 have n0:=WZ
 refine⟨_,by walk_at "b2", ?_⟩
 clear nd n0
 rintro xs M hl ⟨d,rfl,hd⟩
 cases d
 case tuple ds=>
   have fin:∀b:Bool,AX ds=b->∃M2:Own,M2.Sub M/\FM.post [.d (.tuple ds)] M (.d (.bool b)) M2:=fun b hb=>⟨M,zT M,fun d' e=>by cases e;exact⟨by show DS.d (.bool b) = .d (.bool (AX ds));rw[hb],rfl⟩⟩
   walk_at "r"
   refine E7 ?_
   walk_at "r"
   refine AQ rfl rfl ?_
   rw[if_neg nft]
   match ds,hd,fin with
   | [],_,fin=>
     walk_at "r"
     exact fin false rfl
   | a::r,hd,fin=>
     rw[show a0W (.int ((a::r).length:Nat)) (.int 0)=false by simp[a0W];omega]
     walk_at "r"
     refine AB (d:=a) (AC (j:=0) rfl) ?_
     walk_at "r"
     refine AF trivial ?_
     have hnone:CT (OP a)=true->AX (a::r)=false:=fun h=>by
       cases a with
       | str w=>
         cases hf:F0.lookup w with
         | none=>simp only[AX,hf]
         | some f=>simp only[OP,hf,aZ,CT] at h;cases h
       | _=>rfl
     cases hn:CT (OP a) with
     | true=>
       walk_at "r"
       refine Q2 ?_
       rw[hn]
       walk_at "r"
       exact fin false (hnone hn)
     | false=>
       have hw:∃w f,a = .str w/\F0.lookup w=some f:=by
         cases a with
         | str w=>
           cases hf:F0.lookup w with
           | none=>simp only[OP,hf,aZ,CT] at hn;cases hn
           | some f=>exact⟨w,f,rfl,hf⟩
         | _=>cases hn
       obtain⟨w,f,rfl,hf⟩:=hw
       obtain⟨fa,fs,fn,ft,f1⟩:=LT hf
       have hform:OP (.str w) = .str f:=by
         show aZ (F0.lookup w)=_
         rw[hf];rfl
       have hdl:AX (.str w::r)=((r.length==f.cps.size)&&IB f r&&(!YZ w||!a0W (r.getD 0 .none) (r.getD 1 .none))):=by simp only[AX,hf]
       rw[hform]
       walk_at "r"
       refine Q2 ?_
       walk_at "r"
       refine E7 ?_
       walk_at "r"
       refine MJ (zN fs (by decide)) ?_
       walk_at "r"
       refine AQ rfl rfl ?_
       rw[if_pos rfl]
       have hcmp:a0W (.int ((a0X w::r).length:Nat)) (.int ((f.length:Int)+1))=(r.length==f.cps.size):=by
         show(((r.length+1:Nat):Int)==((f.cps.size:Int)+1))=_
         rw[b0Q,beq_iff_eq,beq_iff_eq];omega
       rw[hcmp]
       cases hlen:(r.length==f.cps.size) with
       | false=>
         walk_at "r"
         exact fin false (by rw[hdl,hlen];rfl)
       | true=>
         have hl':r.length=f.cps.size:=eq_of_beq hlen
         have hrl:r.length<=4:=by omega
         walk_at "r"
         refine AE (JA (B5 (B5 HP))) (by simp[NA]) ?_
         refine qE ?_
         walk_at "r"
         refine JC ?_
         rw[show EA (a0X w::r) (some 1) none=r from GX _ 1]
         walk_at "r"
         refine⟨_,_,rfl,fa,by omega,?_,fun _=>true,A0m,?_,?_⟩
         · unfold F6
           rw[zX,b2Z]
           exact zQ (show _<=4 by omega) (by decide)
         · intro d hd' M'
           obtain⟨⟨s1,p1⟩,hm,rfl⟩:=zL.mp hd'
           have hs:s1∈AK f:=(b8V hm).1
           have hp:p1∈r:=(b8V hm).2
           obtain⟨c,hc,rfl⟩:=zL.mp hs
           have hc128:c < 128:=by
             have:=Array.all_eq_true'.mp fa c (by simpa using hc)
             simpa using this
           walk_at "r"
           refine⟨rfl,?_⟩
           walk_at "dl"
           refine⟨rfl,rfl,fun _=>?_⟩
           walk_at "r"
           refine kY ⟨c,rfl,hc128,hd.2 p1 (yV _ hp)⟩ ?_
           exact⟨rfl,rfl⟩
         · rw[mK]
           walk_at "r"
           refine QO ?_
           rw[show(((AK f).zip r).map fun p=>MV p.1 p.2).all id=IB f r by unfold IB;rw[List.all_map];rfl]
           cases hfit:IB f r with
           | false=>
             walk_at "r"
             exact fin false (by rw[hdl,hlen,hfit];rfl)
           | true=>
             walk_at "r"
             refine AF ⟨w,f,r,rfl,hf⟩ ?_
             rw[show RO (.tuple (.str w::r)) = .tuple (r.take (if YZ w then 2 else 1)) from rfl]
             cases htw:YZ w with
             | false=>
               match r,hl',hrl,hdl,hfit,fin with
               | [],hl',_,_,_,_=>exact absurd hl' (by show ¬(0=f.cps.size);omega)
               | x::r',hl',hrl,hdl,hfit,fin=>
                 walk_at "r"
                 refine E7 ?_
                 walk_at "r"
                 refine AQ rfl rfl ?_
                 walk_at "r"
                 exact fin true (by rw[hdl,hlen,hfit,htw];rfl)
             | true=>
               obtain⟨f2,g0,g1⟩:=ft htw
               match r,hl',hrl,hdl,hfit,fin with
               | [],hl',_,_,_,_=>exact absurd hl' (by show ¬(0=f.cps.size);omega)
               | [_],hl',_,_,_,_=>exact absurd hl' (by show ¬(1=f.cps.size);omega)
               | x::y::r',hl',hrl,hdl,hfit,fin=>
                 obtain⟨nx,ny⟩:=mL g0 g1 hfit
                 obtain⟨zx,rfl,hzx⟩:=NY nx
                 obtain⟨zy,rfl,hzy⟩:=NY ny
                 walk_at "r"
                 refine E7 ?_
                 walk_at "r"
                 refine AQ rfl rfl ?_
                 walk_at "r"
                 refine AB (d:=.str zx) (AC (j:=0) rfl) ?_
                 walk_at "r"
                 refine AB (d:=.str zy) (AC (j:=1) rfl) ?_
                 refine AQ (AL hzx) (AL hzy) ?_
                 rw[if_pos rfl]
                 exact fin _ (by rw[hdl,hlen,hfit,htw];rfl)
 all_goals
   walk_at "r"
   exact⟨M,zT M,fun d' e=>by cases e;exact⟨rfl,rfl⟩⟩
end
def cP:List Str:=["deed"]
theorem SL:FnScope cP ["deed"] (AA KR):=⟨rfl,rfl,rfl,by decide +kernel,rfl,by decide +kernel,by decide +kernel⟩
section
local macro_rules | `(tactic| walk_at "x")=>`(tactic| first | ((with_reducible show PT _ (.Compare _ [.In] ..) _);exact @CG _ _ _ _ _ _ _ _ (@kIn _ K rfl) (by walk_at "e") (by walk_at "e") (by with_unfolding_all rfl)))
theorem cQ {f:Addr}{fd:FuncData}(F:Fun K "made_by" "made_by" KR f fd):FnOk P w K mg base CX0 1 f fd ["deed"] (spD K 1 HB):=by
 refine fnD F SL fun cdv A outer s H E hr=>?_
 have hu:=hr.units
 have nd:=SL.nd
 refine⟨_,by walk_at "b2", ?_⟩
 clear nd
 rintro xs M hl ⟨d,rfl,D,rfl,hD⟩
 rw[D.d_eq]
 walk_at "r"
 refine AB (d:=.str D.word) (AC (j:=0) rfl) ?_
 walk_at "r"
 refine AQ D.word_ok (by decide +kernel) ?_
 rw[if_neg nft,D8,mM]
 cases hp:D.isPut with
 | true=>
   walk_at "r"
   refine AB (d:=.str D.fst) (AC (j:=1) rfl) ?_
   refine⟨M,zT M,fun d' e=>?_⟩
   cases e
   refine⟨?_,rfl⟩
   cases D <;> first | rfl | cases hp
 | false=>
   walk_at "r"
   refine AB (d:=.str D.word) (AC (j:=0) rfl) ?_
   walk_at "r"
   refine pR (ys:=[a0Q "name", a0Q "split"]) ?_
   rw[A08,qO]
   cases hn:D.isNS with
   | true=>
     have h2:∃y t,D.rest = .str y::t:=by cases D <;> first | exact⟨_,_,rfl⟩ | cases hn
     obtain⟨y,t,h2⟩:=h2
     walk_at "r"
     refine AB (d:=.str y) (AC (j:=2) (by rw[h2];rfl)) ?_
     refine⟨M,zT M,fun d' e=>?_⟩
     cases e
     refine⟨?_,rfl⟩
     cases D <;> first | (cases hn;done) | (simp only[Deed.rest] at h2;injection h2 with h3 h4;injection h3 with h3;subst h3;rfl)
   | false=>
     walk_at "r"
     refine⟨M,zT M,fun d' e=>?_⟩
     cases e
     refine⟨?_,rfl⟩
     cases D <;> first | rfl | (cases hn;done) | (cases hp;done)
end
def ZX:List Str:=["things"]
def SM:List Str:=["ahead", "thing"]
def SN:List (Option Nat):=[none,none]
theorem SO:SM.Nodup:=by decide +kernel
theorem nQ:FnScope ZX ["things"] (AA N4):=⟨rfl,rfl,rfl,by decide +kernel,rfl,by decide +kernel,by decide +kernel⟩
theorem nR {f:Addr}{fd:FuncData}(F:Fun K "rises" "rises" N4 f fd) (n_all:mg "all"=none) (n_zip:mg "zip"=none):FnOk P w K mg base CX0 1 f fd ["things"] (spD K 1 VU):=by
 refine fnD F nQ fun cdv A outer s H E hr=>?_
 have hu:=hr.units
 refine⟨_,(@KF _ _ _ (@Q8 _ _ _ _ (@D3 _ _ _ _ _ _ _ _ _ (@A0R _ (K) rfl rfl) (by rfl) n_all PyProof.Rows.boot_all (@CH _ _ _ _ _ (@dG _ _ _ _ _ _ _ _ _ _ _ _ _ rfl (@L2.CSc.of _ _ (SM) (SN) (AA N4) (ZX) (by decide +kernel) rfl rfl) (@A02 _ (K) _ _ _ _ _ _ _ _ rfl rfl n_zip (@CH _ _ _ _ _ (@pv _ 0 _ _ (by rfl) (by walk_at "lc") (by decide) (by decide)) (@CH _ _ _ _ _ (@XN _ _ _ _ _ _ _ _ _ _ (@A0V _ (K) rfl) (@pv _ 0 _ _ (by rfl) (by walk_at "lc") (by decide) (by decide)) (@dB _ _ _ (@NR _ _ _ _)) (@dA _)) (@FO _) (by rfl)) (by rfl)) (by rfl) (by rfl)) (fun C s' H' ex' pn'=>⟨@MK _ (K) _ _ _ _ (2) rfl rfl (@CN _ _ _ _ _ (@CZ _ _ (0) _ SO rfl (by walk_at "lc") (by first   | exact .inl rfl   | exact .inr rfl   | assumption)) (@CN _ _ _ _ _ (@CZ _ _ (1) _ SO rfl (by walk_at "lc") (by first   | exact .inl rfl   | exact .inr rfl   | assumption)) (@MD _) (by rfl)) (by rfl)) (by rfl) (by rfl),@dF _,(@E5 _ _ _ _ _ _ _ _ (@aS _) (@pv _ 0 _ _ (by rfl) (by walk_at "lc") (by decide) (by decide)) (@pv _ 1 _ _ (by rfl) (by walk_at "lc") (by decide) (by decide)) (@BZ _ _ (by decide) (by decide)))⟩) (by intro _;rfl)) (@FO _) (by rfl)) (by decide) (by decide) (by rfl) (by rfl)))),?_⟩
 rintro xs M hl ⟨d,rfl,ss,rfl,hss⟩
 walk_at "r"
 refine AE (JA (B5 (B5 HP))) (by simp[SN]) ?_
 refine vR ?_
 walk_at "r"
 refine CV ?_
 rw[show EA (ss.map a0X) (some 1) none=(ss.drop 1).map a0X from(GX _ 1).trans (by rw[b8X])]
 walk_at "r"
 refine⟨_,_,rfl,?_,fun _=>true,fun d=>.bool (ltP d),?_,?_⟩
 · rw[QV,zX,b2Z]
   exact zQ (show _<=5000 by omega) (by decide)
 · intro d hd M'
   rw[QV] at hd
   obtain⟨⟨a,b⟩,hc,rfl⟩:=zL.mp hd
   walk_at "r"
   refine⟨rfl,?_⟩
   walk_at "dl"
   refine⟨rfl,rfl,fun _=>?_⟩
   walk_at "r"
   refine pG ?_
   rw[kX]
   exact⟨rfl,rfl⟩
 · rw[vU]
   walk_at "r"
   refine QO ?_
   rw[YA]
   exact⟨M,zT M,fun d' e=>by cases e;exact⟨by simp only[UI],rfl⟩⟩
def ZY:List Str:=["thing"]
theorem ZZ:FnScope ZY ["thing"] (AA IN):=⟨rfl,rfl,rfl,by decide +kernel,rfl,by decide +kernel,by decide +kernel⟩
theorem a6 {f:Addr}{fd:FuncData}(F:Fun K "is_thing" "is_thing" IN f fd) (n_isinstance:mg "isinstance"=none) (n_len:mg "len"=none) (n_tuple:mg "tuple"=none) (h_is_name:Has P w K mg base "is_name" 1 ["thing"] GW) (h_is_place:Has P w K mg base "is_place" 3 ["thing"] HQ) (h_is_whole:Has P w K mg base "is_whole" 1 ["thing"] FS):FnOk P w K mg base CX0 4 f fd ["thing"] (spD K 1 HU):=by
 refine fnD F ZZ fun cdv A outer s H E hr=>?_
 have hu:=hr.units
 refine⟨_,(@MC _ _ _ _ _ (@j4 _ _ _ _ _ _ _ _ (@L2.PW.pt _ _ _ (@pw_or _ _ _ _ _ _ _ (@j1 _ _ _ _ (@j0 _ _ _ (@D3 _ _ _ _ _ _ _ _ _ (@A0S _ (K) rfl) (by rfl) n_isinstance PyProof.Rows.boot_isinstance (@CH _ _ _ _ _ (@pv _ 0 _ _ (by rfl) (by walk_at "lc") (by decide) (by decide)) (@CH _ _ _ _ _ (@G7 _ _ (.ty "tuple") _ _ rfl n_tuple b8W rfl (by decide) (by decide)) (@FO _) (by rfl)) (by rfl)) (by decide) (by decide) (by rfl) (by rfl)) (by intro _;rfl))) (@pw_or1 _ _ _ _ (@CG _ _ _ _ _ _ _ _ (@kNe _ (K) rfl hu) (@D3 _ _ _ _ _ _ _ _ _ (@A0Q _ (K) rfl) (by rfl) n_len PySem.boot_len (@CH _ _ _ _ _ (@pv _ 0 _ _ (by rfl) (by walk_at "lc") (by decide) (by decide)) (@FO _) (by rfl)) (by decide) (by decide) (by rfl) (by rfl)) (@NR _ _ _ _) (@BZ _ _ (by decide) (by decide)))))) (@KF _ _ _ (@Q8 _ _ _ _ (@rS _ _ _ _))) (@cU _)) (@KF _ _ _ (@Q8 _ _ _ _ (@aE _ _ _ _ _ _ _ (@UC _ (K) (P) (w) (mg) (base) _ _ _ _ _ _ _ _ _ rfl rfl rfl rfl rfl h_is_name (hr.mono (by decide)) rfl (@CH _ _ _ _ _ (@dD _ _ _ _ _ _ _ (@kIx _ (K) rfl) (@pv _ 0 _ _ (by rfl) (by walk_at "lc") (by decide) (by decide)) (@NR _ _ _ _) (fun _ _=>rfl)) (@FO _) (by rfl)) (by decide) (by rfl) (by rfl)) (@aE _ _ _ _ _ _ _ (@UC _ (K) (P) (w) (mg) (base) _ _ _ _ _ _ _ _ _ rfl rfl rfl rfl rfl h_is_place (hr.mono (by decide)) rfl (@CH _ _ _ _ _ (@dD _ _ _ _ _ _ _ (@kIx _ (K) rfl) (@pv _ 0 _ _ (by rfl) (by walk_at "lc") (by decide) (by decide)) (@NR _ _ _ _) (fun _ _=>rfl)) (@FO _) (by rfl)) (by decide) (by rfl) (by rfl)) (@j2 _ _ _ _ _ (@UC _ (K) (P) (w) (mg) (base) _ _ _ _ _ _ _ _ _ rfl rfl rfl rfl rfl h_is_whole (hr.mono (by decide)) rfl (@CH _ _ _ _ _ (@dD _ _ _ _ _ _ _ (@kIx _ (K) rfl) (@pv _ 0 _ _ (by rfl) (by walk_at "lc") (by decide) (by decide)) (@NR _ _ _ _) (fun _ _=>rfl)) (@FO _) (by rfl)) (by decide) (by rfl) (by rfl)))))))),?_⟩
 rintro xs M hl ⟨d,rfl,hd⟩
 cases d
 case tuple ds=>
   walk_at "r"
   refine E7 ?_
   walk_at "r"
   refine AQ rfl rfl ?_
   rw[if_pos rfl]
   match ds,hd with
   | [a,b,c],hd=>
     walk_at "r"
     refine AB (d:=a) rfl ?_
     walk_at "r"
     refine AF hd ?_
     cases ha:BK a with
     | false=>
       walk_at "r"
       exact⟨M,zT M,fun d' e=>by cases e;exact⟨by simp[BD,ha],rfl⟩⟩
     | true=>
       walk_at "r"
       refine AB (d:=b) rfl ?_
       walk_at "r"
       refine AF trivial ?_
       cases hb:DY b with
       | false=>
         walk_at "r"
         exact⟨M,zT M,fun d' e=>by cases e;exact⟨by simp[BD,hb],rfl⟩⟩
       | true=>
         walk_at "r"
         refine AB (d:=c) rfl ?_
         walk_at "r"
         refine AF trivial ?_
         exact⟨M,zT M,fun d' e=>by cases e;exact⟨by simp[BD,ha,hb],rfl⟩⟩
   | [],_=>
     walk_at "r"
     exact⟨M,zT M,fun d' e=>by cases e;exact⟨rfl,rfl⟩⟩
   | [_],_=>
     walk_at "r"
     exact⟨M,zT M,fun d' e=>by cases e;exact⟨rfl,rfl⟩⟩
   | [_,_],_=>
     walk_at "r"
     exact⟨M,zT M,fun d' e=>by cases e;exact⟨rfl,rfl⟩⟩
   | a::b::c::d::r,_=>
     have hne:(!a0W (.int ((a::b::c::d::r).length:Nat)) (.int 3))=true:=by
       simp[a0W];omega
     rw[hne]
     walk_at "r"
     exact⟨M,zT M,fun d' e=>by cases e;exact⟨rfl,rfl⟩⟩
 all_goals
   walk_at "r"
   exact⟨M,zT M,fun d' e=>by cases e;exact⟨rfl,rfl⟩⟩
def P0:List Str:=["thing"]
def L6:List Str:=["part"]
def GP:List (Option Nat):=[none]
theorem T5:L6.Nodup:=by decide +kernel
theorem P1:FnScope P0 ["thing"] (AA FZ):=⟨rfl,rfl,rfl,by decide +kernel,rfl,by decide +kernel,by decide +kernel⟩
section
local macro_rules | `(tactic| walk_at "cs")=>`(tactic| first | exact @FY _ _ L6 GP (AA FZ) P0 (by decide +kernel) (by decide +kernel) rfl rfl)
theorem a7 {f:Addr}{fd:FuncData}(F:Fun K "is_world" "is_world" FZ f fd) (n_all:mg "all"=none) (n_isinstance:mg "isinstance"=none) (n_tuple:mg "tuple"=none) (h_is_thing:Has P w K mg base "is_thing" 4 ["thing"] HU) (h_rises:Has P w K mg base "rises" 1 ["things"] VU):FnOk P w K mg base CX0 5 f fd ["thing"] (spD K 1 LQ):=by
 refine fnD F P1 fun cdv A outer s H E hr=>?_
 have hu:=hr.units
 have nd:=P1.nd
 have n0:=T5
 refine⟨_,by walk_at "b2", ?_⟩
 clear nd n0
 rintro xs M hl ⟨d,rfl,hd⟩
 cases d
 case tuple ds=>
   have hsz:ds.length < sizeLine:=zQ hd.1 (by decide)
   walk_at "r"
   refine AE (B3 0) (by simp[GP]) ?_
   refine CI ?_
   walk_at "r"
   refine⟨hsz,fun _=>true,fun d=>.bool (BD d),?_,?_⟩
   · intro d hd' M'
     walk_at "dl"
     refine⟨rfl,?_⟩
     walk_at "dl"
     refine⟨rfl,rfl,fun _=>?_⟩
     walk_at "r"
     exact AF (hd.2 d hd') ⟨rfl,rfl⟩
   · have e1:(ds.filter fun _=>true).map (fun d=>PyData.bool (BD d))=(ds.map BD).map .bool:=by rw[flt,zD];rfl
     rw[e1]
     walk_at "r"
     refine QO ?_
     have e2:(ds.map BD).all id=ds.all BD:=by simp
     rw[e2]
     cases ha:ds.all BD with
     | false=>
       walk_at "r"
       exact⟨M,zT M,fun d' e=>by cases e;exact⟨by simp only[MP,ha,Bool.false_and],rfl⟩⟩
     | true=>
       have hall:=List.all_eq_true.mp ha
       walk_at "r"
       refine AE (B3 0) (by simp[GP]) ?_
       refine CI ?_
       walk_at "r"
       refine⟨hsz,fun _=>true,fun d=>.str (nm0 d),?_,?_⟩
       · intro d hd' M'
         have hth:=hall d hd'
         have hx:∃z b c,d = .tuple [.str z,b,c]:=by
           match d,hth with
           | .tuple [a,b,c],h=>
             unfold BD at h
             simp only[a0V] at h
             obtain⟨z,rfl,_⟩:=NY h.1.1
             exact⟨z,b,c,rfl⟩
         obtain⟨z,b,c,rfl⟩:=hx
         walk_at "dl"
         refine⟨rfl,?_⟩
         walk_at "dl"
         refine⟨rfl,rfl,fun _=>?_⟩
         walk_at "r"
         exact AB (d:=.str z) rfl ⟨rfl,rfl⟩
       · have e3:(ds.filter fun _=>true).map (fun d=>a0X (nm0 d))=(ds.map nm0).map .str:=by rw[flt,zD];rfl
         rw[e3]
         walk_at "r"
         refine AF ⟨ds.map nm0,rfl,by rw[zX];exact hd.1⟩ ?_
         rw[UI]
         exact⟨M,zT M,fun d' e=>by cases e;exact⟨by simp only[MP,ha,Bool.true_and],rfl⟩⟩
 all_goals
   walk_at "r"
   exact⟨M,zT M,fun d' e=>by cases e;exact⟨rfl,rfl⟩⟩
end
def P2:List Str:=["world"]
def L7:List Str:=["name", "place", "count"]
def L8:List (Option Nat):=[none,none,none]
theorem T6:L7.Nodup:=by decide +kernel
theorem P3:FnScope P2 ["world"] (AA G0):=⟨rfl,rfl,rfl,by decide +kernel,rfl,by decide +kernel,by decide +kernel⟩
section
local macro_rules | `(tactic| walk_at "cs")=>`(tactic| first | exact @FY _ _ L7 L8 (AA G0) P2 (by decide +kernel) (by decide +kernel) rfl rfl)
local macro_rules | `(tactic| walk_at "x")=>`(tactic| first | ((with_reducible show PG _ (.Tuple ..) _);exact @MK _ K _ _ _ _ (3) rfl rfl (by walk_at "j") (by rfl) (by rfl)))
theorem a8 {f:Addr}{fd:FuncData}(F:Fun K "by_names" "by_names" G0 f fd):FnOk P w K mg base CX0 1 f fd ["world"] (spD K 1 FW):=by
 refine fnD F P3 fun cdv A outer s H E hr=>?_
 have hu:=hr.units
 have hu1:=zQ (a3Q (show 1<=64 by decide) _) hu
 have nd:=P3.nd
 have n0:=T6
 refine⟨_,by walk_at "b1", ?_⟩
 clear nd n0
 rintro xs M hl ⟨w,rfl,nd,hlen⟩
 have hz:w.length < sizeLine:=zP hlen (by decide)
 walk_at "r"
 refine YW (JA (B5 (B5 (B5 HP)))) (by simp[L8]) ?_
 refine CI ?_
 walk_at "r"
 have ek:(w.map thD).map nm0=w.map (·.1):=dQ w
 refine⟨by rw[zX];exact hz,fun _=>true,nm0,A09,by rw[c6,ek];exact nd,?_,?_⟩
 · intro d hd M'
   obtain⟨t,ht,rfl⟩:=zL.mp hd
   rw[show thD t = .tuple [.str t.1,.int t.2.1,.int t.2.2] from rfl]
   walk_at "r"
   refine⟨rfl,?_⟩
   walk_at "dl"
   refine⟨rfl,rfl,fun _=>?_⟩
   walk_at "r"
   refine⟨rfl,rfl,?_⟩
   walk_at "r"
   exact⟨rfl,rfl⟩
 · intro p hp
   rw[c6,zD]
   refine⟨_,zT _,fun w' e=>⟨p,hp,rfl,?_⟩⟩
   have e:=WB (show wD w=wD w' by simpa using e)
   subst e
   rfl
end
def G2:List Str:=["things"]
def EN:List Str:=["name", "things"]
def EO:List (Option Nat):=[none,some 0]
theorem JZ:EN.Nodup:=by decide +kernel
theorem G3:FnScope G2 ["things"] (AA BG):=⟨rfl,rfl,rfl,by decide +kernel,rfl,by decide +kernel,by decide +kernel⟩
section
local macro_rules | `(tactic| walk_at "cs")=>`(tactic| first | exact @FY _ _ EN EO (AA BG) G2 (by decide +kernel) (by decide +kernel) rfl rfl)
local macro_rules | `(tactic| walk_at "y")=>`(tactic| first | ((with_reducible show PE _ (.Subscript ..) _);exact @PY _ _ _ _ _ _ hu1 (@pv _ 1 _ _ (by rfl) (by walk_at "lc") (by decide) (by decide)) (@pv _ 0 _ _ (by rfl) (by walk_at "lc") (by decide) (by decide)) (fun _ _=>rfl)))
theorem M0 {f:Addr}{fd:FuncData}(F:Fun K "rising_by_names" "rising_by_names" BG f fd) (n_sorted:mg "sorted"=none) (n_tuple:mg "tuple"=none):FnOk P w K mg base CX0 1 f fd ["things"] (spD K 1 BE):=by
 refine fnD F G3 fun cdv A outer s H E hr=>?_
 have hu:=hr.units
 have hu1:=zQ (a3Q (show 1<=64 by decide) _) hu
 have nd:=G3.nd
 have n0:=JZ
 refine⟨_,by walk_at "b1", ?_⟩
 clear nd n0
 rintro xs M hl ⟨p,ts,rfl,m,nd,h64⟩
 walk_at "r"
 refine VW (B3 0) (by simp[EO]) ?_
 refine CC ?_
 walk_at "r"
 refine m6 m (by unfold tsD;rw[zX];exact h64) fun ss hp hs=>?_
 rw[show(tsD ts).map (·.1)=ts.map (·.1) by unfold tsD;rw[zD];rfl] at hp
 have hlen:ss.length=ts.length:=by have:=hp.length_eq;simpa using this
 refine⟨_,rfl,by rw[zX,hlen];exact zP h64 (by decide),fun _=>true,eR ts,?_,?_⟩
 · rintro d hd A acc M' hA rfl
   obtain⟨s,hs',rfl⟩:=zL.mp hd
   obtain⟨t,ht,et⟩:=zL.mp (hp.mem_iff.mp hs')
   have hlook:AD ts s=some t.2:=by rw[← et];exact FA nd ht
   have hpA:p≠A:=fun e=>by rw[e] at m;rw[hA] at m;cases m
   walk_at "r"
   refine⟨rfl,?_⟩
   walk_at "dl"
   refine⟨rfl,rfl,fun _=>?_⟩
   walk_at "r"
   refine MT ?_
   walk_at "r"
   refine⟨p,tsD ts,s,pcD t.2.1 t.2.2,rfl,rfl,by rw[yH hpA];exact m,by rw[D9,hlook];rfl,?_⟩
   refine Y4 (yD rfl) ?_
   refine⟨?_,rfl⟩
   simp only[eR,hlook]
   rfl
 · rw[c6,i9 nd hp hs]
   walk_at "r"
   refine KJ ?_
   refine⟨M,zT M,fun p' ts' e m' nd'=>?_⟩
   cases e
   have e:=WC (Option.some.inj (m.symm.trans m'))
   subst e
   exact⟨rfl,rfl⟩
end
def X0:List Str:=["things", "name", "more", "place", "count"]
theorem NB:FnScope X0 ["things", "name", "more"] (AA GF):=⟨rfl,rfl,rfl,by decide +kernel,rfl,by decide +kernel,by decide +kernel⟩
section
local macro_rules | `(tactic| walk_at "x")=>`(tactic| first | ((with_reducible show PS _ (.Assign [.Tuple ..] ..) _);exact @GM _ _ _ _ _ _ (by walk_at "e") (by walk_at "g") (by rfl) (by rfl) (by rfl)) | ((with_reducible show PG _ (.Tuple ..) _);exact @UQ _ K _ _ _ _ (2) rfl rfl (by walk_at "j") (by rfl) (by rfl)) | ((with_reducible show PS _ (.Assign [.Subscript ..] ..) _);exact @dE _ _ _ _ _ _ _ _ _ hu1 (by walk_at "e") (by walk_at "e") (by walk_at "e") (by rfl)))
local macro_rules | `(tactic| walk_at "y")=>`(tactic| first | ((with_reducible show PE _ (.Subscript ..) _);exact @PY _ _ _ _ _ _ hu1 (@pv _ 0 _ _ (by rfl) (by walk_at "lc") (by decide) (by decide)) (@pv _ 1 _ _ (by rfl) (by walk_at "lc") (by decide) (by decide)) (fun _ _=>rfl)))
theorem X1 {f:Addr}{fd:FuncData}(F:Fun K "add_count" "add_count" GF f fd):FnOk P w K mg base CX0 1 f fd ["things", "name", "more"] (spD K 3 EF):=by
 refine fnD F NB fun cdv A outer s H E hr=>?_
 have hu:=hr.units
 have hu1:=zQ (a3Q (show 1<=64 by decide) _) hu
 have nd:=NB.nd
 refine⟨_,by walk_at "b2", ?_⟩
 clear nd
 rintro xs M hl ⟨p,ts,x,k,v,rfl,m,hlk,h64⟩
 walk_at "dl"
 refine EW ?_
 refine MT ?_
 walk_at "r"
 refine⟨p,tsD ts,x,pcD v.1 v.2,rfl,rfl,m,by rw[D9,hlk];rfl,?_⟩
 rw[show pcD v.1 v.2 = .tuple [.int v.1,.int v.2] from rfl]
 walk_at "r"
 refine MU ?_
 walk_at "r"
 refine⟨p,tsD ts,x,pcD v.1 (v.2+k),rfl,rfl,rfl,m,by unfold tsD;rw[zX];exact zP h64 (by decide),?_⟩
 refine⟨_,zT _,fun p' ts' x' k' e m'=>?_⟩
 cases e
 have e:=WC (Option.some.inj (m.symm.trans m'))
 subst e
 refine⟨rfl,?_⟩
 rw[MW]
 unfold KW
 rw[hlk]
end
def M8:List Str:=["things", "deed", "made", "name"]
theorem G4:FnScope M8 ["things", "deed"] (AA C8):=⟨rfl,rfl,rfl,by decide +kernel,rfl,by decide +kernel,by decide +kernel⟩
section
local macro_rules | `(tactic| walk_at "x")=>`(tactic| first | ((with_reducible show PE _ (.Compare _ [.In] ..) _);exact @tI _ _ _ _ _ _ (@uH _ _ _ _ _ hu1 (by walk_at "e") (by walk_at "e")) (by with_unfolding_all rfl)))
theorem M9 {f:Addr}{fd:FuncData}(F:Fun K "refuse_undoable" "refuse_undoable" C8 f fd) (h_is_deed:Has P w K mg base "is_deed" 5 ["thing"] FM) (h_made_by:Has P w K mg base "made_by" 1 ["deed"] HB) (h_names_in:Has P w K mg base "names_in" 2 ["deed"] IA):FnOk P w K mg base CX0 6 f fd ["things", "deed"] (spD K 2 BF):=by
 refine fnD F G4 fun cdv A outer s H E hr=>?_
 have hu:=hr.units
 have hu1:=zQ (a3Q (show 1<=64 by decide) _) hu
 have nd:=G4.nd
 refine⟨_,by walk_at "b2", ?_⟩
 clear nd
 rintro xs M hl ⟨p,ts,D,rfl,m,hr,ha⟩
 have iD:bX D.d:=JI hr
 walk_at "r"
 refine AF (WE hr.1) ?_
 rw[Q6 hr]
 walk_at "r"
 refine AF iD ?_
 walk_at "r"
 refine LP ?_
 refine CI ?_
 walk_at "r"
 refine AF (mF D) ?_
 rw[mG]
 walk_at "r"
 refine⟨fun k ρ' M'=>M'=M/\∃x:Option DS,ρ'=[some (.loc p),some (.d D.d),some (.d (IT D.d)),x],⟨rfl,_,rfl⟩,?_,?_⟩
 · rintro k d ρ' M' hd ⟨rfl,x,rfl⟩
   obtain⟨n,hn,rfl⟩:=zL.mp (yN hd)
   have hz:AG n:=hr.1 n hn
   walk_at "r"
   refine qI ?_
   walk_at "r"
   refine⟨p,tsD ts,n,rfl,rfl,m,?_⟩
   walk_at "r"
   refine AQ (AL hz) (qP hr.1) ?_
   rw[if_neg nft,qV]
   refine AQ rfl rfl ?_
   rw[if_neg nft,iE,D9]
   have e:(((AD ts n).map fun v=>pcD v.1 v.2).isSome==decide (D.made=some n))=false:=by
     rw[c0J,IC]
     have:=GB ha n hn
     by_cases h2:D.made=some n
     · rw[decide_eq_true h2,decide_eq_false (fun q=>(this.mp q) h2)];rfl
     · rw[decide_eq_false h2,decide_eq_true (this.mpr h2)];rfl
   rw[e]
   walk_at "r"
   exact⟨rfl,_,rfl⟩
 · rintro ρ' M' ⟨rfl,x,rfl⟩
   exact⟨_,zT _,rfl,rfl⟩
end
def iV:List Str:=["things", "deed", "word", "name"]
theorem OC:FnScope iV ["things", "deed"] (AA N5):=⟨rfl,rfl,rfl,by decide +kernel,rfl,by decide +kernel,by decide +kernel⟩
section
local macro_rules | `(tactic| walk_at "x")=>`(tactic| first | ((with_reducible show PS _ (.Assign [.Tuple ..] (.Tuple ..) _) _);exact @tR _ _ (2) (3) _ _ _ _ _ _ _ _ _ _ _ rfl OC.nd rfl rfl (by decide) rfl rfl (by walk_at "a") rfl (by rfl)) | ((with_reducible show PS _ (.Assign [.Subscript ..] ..) _);exact @dE _ _ _ _ _ _ _ _ _ hu1 (by walk_at "e") (by walk_at "e") (by walk_at "e") (by rfl)) | ((with_reducible show PS _ (.Delete ..) _);exact @oG _ _ _ _ _ _ _ (by walk_at "e") (by walk_at "e")) | ((with_reducible show PE _ (.Call (.Attribute _ (a0Q "pop") _) ..) _);exact @jO _ _ _ _ _ _ _ (by walk_at "e") (by walk_at "e") (@L2.M1.mk _ _ _ _ _ _ rfl rfl rfl rfl)))
local macro_rules | `(tactic| walk_at "y")=>`(tactic| first | ((with_reducible show PE _ (.Subscript ..) _);exact @PY _ _ _ _ _ _ hu1 (@pv _ 0 _ _ (by rfl) (by walk_at "lc") (by decide) (by decide)) (@pv _ 3 _ _ (by rfl) (by walk_at "lc") (by decide) (by decide)) (fun _ _=>rfl)) | ((with_reducible show PE _ (.Subscript ..) _);exact @PY _ _ _ _ _ _ hu1 (@pv _ 0 _ _ (by rfl) (by walk_at "lc") (by decide) (by decide)) (by walk_at "e") (fun _ _=>rfl)))
theorem iW {f:Addr}{fd:FuncData}(F:Fun K "change" "change" N5 f fd) (h_add_count:Has P w K mg base "add_count" 1 ["things", "name", "more"] EF):FnOk P w K mg base CX0 2 f fd ["things", "deed"] (spD K 2 JJ):=by
 refine fnD F OC fun cdv A outer s H E hr=>?_
 have hu:=hr.units
 have hu1:=zQ (a3Q (show 1<=64 by decide) _) hu
 have nd:=OC.nd
 refine⟨_,by walk_at "b2", ?_⟩
 clear nd
 rintro xs M hl ⟨p,ts,D,rfl,m,⟨nd,hlen⟩,hr,ha⟩
 have h64:ts.length < 64:=c2J hlen
 have hst:=GB ha
 cases D with
 | put x pl k=>
   have hx:x∉ts.map (·.1):=fun q=>(hst x (by simp[Deed.names])).mp q rfl
   rw[show Deed.d (Deed.put x pl k) = .tuple [.str (a0Q "put"),.str x,.int pl,.int k] from rfl]
   walk_at "r"
   refine AB (d:=.str (a0Q "put")) (AC (j:=0) rfl) ?_
   walk_at "r"
   refine AB (d:=.str x) (AC (j:=1) rfl) ?_
   walk_at "r"
   refine⟨_,_,rfl,?_⟩
   walk_at "r"
   refine AR (t:=true) (by decide +kernel) ?_
   walk_at "r"
   refine MU ?_
   walk_at "r"
   refine AB (d:=.int pl) (AC (j:=2) rfl) ?_
   walk_at "r"
   refine AB (d:=.int k) (AC (j:=3) rfl) ?_
   walk_at "r"
   refine⟨p,tsD ts,x,pcD pl k,rfl,rfl,rfl,m,Q7 h64,?_⟩
   refine⟨_,zT _,fun p' ts' D' e m'=>?_⟩
   obtain⟨rfl,rfl,rfl⟩:=ID (D:=Deed.put x pl k) m e m'
   refine⟨rfl,?_⟩
   rw[MW];rfl
 | take x=>
   obtain⟨v,hv⟩:=BO ((hst x (by simp[Deed.names])).mpr (by simp[Deed.made]))
   rw[show Deed.d (Deed.take x) = .tuple [.str (a0Q "take"),.str x] from rfl]
   walk_at "r"
   refine AB (d:=.str (a0Q "take")) (AC (j:=0) rfl) ?_
   walk_at "r"
   refine AB (d:=.str x) (AC (j:=1) rfl) ?_
   walk_at "r"
   refine⟨_,_,rfl,?_⟩
   walk_at "r"
   refine AR (t:=false) (by decide +kernel) ?_
   walk_at "r"
   refine AR (t:=true) (by decide +kernel) ?_
   walk_at "r"
   refine eO ?_
   walk_at "r"
   refine⟨p,tsD ts,x,rfl,rfl,m,by rw[D9,hv];rfl,?_⟩
   refine⟨_,zT _,fun p' ts' D' e m'=>?_⟩
   obtain⟨rfl,rfl,rfl⟩:=ID (D:=Deed.take x) m e m'
   refine⟨rfl,?_⟩
   rw[RR];rfl
 | move x pl=>
   obtain⟨v,hv⟩:=BO ((hst x (by simp[Deed.names])).mpr (by simp[Deed.made]))
   rw[show Deed.d (Deed.move x pl) = .tuple [.str (a0Q "move"),.str x,.int pl] from rfl]
   walk_at "r"
   refine AB (d:=.str (a0Q "move")) (AC (j:=0) rfl) ?_
   walk_at "r"
   refine AB (d:=.str x) (AC (j:=1) rfl) ?_
   walk_at "r"
   refine⟨_,_,rfl,?_⟩
   walk_at "r"
   refine AR (t:=false) (by decide +kernel) ?_
   walk_at "r"
   refine AR (t:=false) (by decide +kernel) ?_
   walk_at "r"
   refine AR (t:=true) (by decide +kernel) ?_
   walk_at "r"
   refine MU ?_
   walk_at "r"
   refine AB (d:=.int pl) (AC (j:=2) rfl) ?_
   walk_at "r"
   refine MT ?_
   walk_at "r"
   refine⟨p,tsD ts,x,pcD v.1 v.2,rfl,rfl,m,by rw[D9,hv];rfl,?_⟩
   walk_at "r"
   refine AB (ds:=[.int v.1,.int v.2]) (d:=.int v.2) (AC (j:=1) rfl) ?_
   walk_at "r"
   refine⟨p,tsD ts,x,pcD pl v.2,rfl,rfl,rfl,m,Q7 h64,?_⟩
   refine⟨_,zT _,fun p' ts' D' e m'=>?_⟩
   obtain⟨rfl,rfl,rfl⟩:=ID (D:=Deed.move x pl) m e m'
   refine⟨rfl,?_⟩
   rw[MW];simp only[doT,hv]
 | count x k=>
   obtain⟨v,hv⟩:=BO ((hst x (by simp[Deed.names])).mpr (by simp[Deed.made]))
   rw[show Deed.d (Deed.count x k) = .tuple [.str (a0Q "count"),.str x,.int k] from rfl]
   walk_at "r"
   refine AB (d:=.str (a0Q "count")) (AC (j:=0) rfl) ?_
   walk_at "r"
   refine AB (d:=.str x) (AC (j:=1) rfl) ?_
   walk_at "r"
   refine⟨_,_,rfl,?_⟩
   walk_at "r"
   refine AR (t:=false) (by decide +kernel) ?_
   walk_at "r"
   refine AR (t:=false) (by decide +kernel) ?_
   walk_at "r"
   refine AR (t:=false) (by decide +kernel) ?_
   walk_at "r"
   refine AR (t:=true) (by decide +kernel) ?_
   walk_at "r"
   refine AB (d:=.int k) (AC (j:=2) rfl) ?_
   walk_at "r"
   refine RT m hv h64 ?_
   walk_at "r"
   refine⟨_,zT _,fun p' ts' D' e m'=>?_⟩
   obtain⟨rfl,rfl,rfl⟩:=ID (D:=Deed.count x k) m e m'
   refine⟨rfl,?_⟩
   rfl
 | name x y=>
   obtain⟨v,hv⟩:=BO ((hst x (by simp[Deed.names])).mpr (by simp[Deed.made,hr.2.1.symm]))
   rw[show Deed.d (Deed.name x y) = .tuple [.str (a0Q "name"),.str x,.str y] from rfl]
   walk_at "r"
   refine AB (d:=.str (a0Q "name")) (AC (j:=0) rfl) ?_
   walk_at "r"
   refine AB (d:=.str x) (AC (j:=1) rfl) ?_
   walk_at "r"
   refine⟨_,_,rfl,?_⟩
   walk_at "r"
   refine AR (t:=false) (by decide +kernel) ?_
   walk_at "r"
   refine AR (t:=false) (by decide +kernel) ?_
   walk_at "r"
   refine AR (t:=false) (by decide +kernel) ?_
   walk_at "r"
   refine AR (t:=false) (by decide +kernel) ?_
   walk_at "r"
   refine AR (t:=true) (by decide +kernel) ?_
   walk_at "r"
   refine MU ?_
   refine qJ ?_
   walk_at "r"
   refine⟨p,tsD ts,rfl,m,?_⟩
   walk_at "r"
   refine⟨tsD ts,x,pcD v.1 v.2,rfl,m,by rw[D9,hv];rfl,?_⟩
   rw[RR]
   walk_at "r"
   refine AB (d:=.str y) (AC (j:=2) rfl) ?_
   refine⟨p,tsD (JH ts x),y,pcD v.1 v.2,rfl,rfl,rfl,zU,Q7 (zQ (yJ _ _) h64),?_⟩
   rw[yI]
   refine⟨_,zT _,fun p' ts' D' e m'=>?_⟩
   obtain⟨rfl,rfl,rfl⟩:=ID (D:=Deed.name x y) m e m'
   refine⟨rfl,?_⟩
   rw[MW];simp only[doT,hv]
 | split x y pl k=>
   obtain⟨v,hv⟩:=BO ((hst x (by simp[Deed.names])).mpr (by simp[Deed.made,hr.2.1.symm]))
   rw[show Deed.d (Deed.split x y pl k) = .tuple [.str (a0Q "split"),.str x,.str y,.int pl,.int k] from rfl]
   walk_at "r"
   refine AB (d:=.str (a0Q "split")) (AC (j:=0) rfl) ?_
   walk_at "r"
   refine AB (d:=.str x) (AC (j:=1) rfl) ?_
   walk_at "r"
   refine⟨_,_,rfl,?_⟩
   walk_at "r"
   refine AR (t:=false) (by decide +kernel) ?_
   walk_at "r"
   refine AR (t:=false) (by decide +kernel) ?_
   walk_at "r"
   refine AR (t:=false) (by decide +kernel) ?_
   walk_at "r"
   refine AR (t:=false) (by decide +kernel) ?_
   walk_at "r"
   refine AR (t:=false) (by decide +kernel) ?_
   walk_at "r"
   refine AR (t:=true) (by decide +kernel) ?_
   walk_at "r"
   refine AB (d:=.int k) (AC (j:=4) rfl) ?_
   walk_at "r"
   refine RT m hv h64 ?_
   walk_at "r"
   refine MU ?_
   walk_at "r"
   refine AB (d:=.int pl) (AC (j:=3) rfl) ?_
   walk_at "r"
   refine AB (d:=.int k) (AC (j:=4) rfl) ?_
   walk_at "r"
   refine AB (d:=.str y) (AC (j:=2) rfl) ?_
   refine⟨p,tsD (KW ts x (-k)),y,pcD pl k,rfl,rfl,rfl,zU,Q7 (by rw[mP];exact h64),?_⟩
   rw[yI]
   refine⟨_,zT _,fun p' ts' D' e m'=>?_⟩
   obtain⟨rfl,rfl,rfl⟩:=ID (D:=Deed.split x y pl k) m e m'
   refine⟨rfl,?_⟩
   rw[MW];rfl
 | join x y=>
   obtain⟨v,hv⟩:=BO ((hst x (by simp[Deed.names])).mpr (by simp[Deed.made]))
   obtain⟨u,hu'⟩:=BO ((hst y (by simp[Deed.names])).mpr (by simp[Deed.made]))
   rw[show Deed.d (Deed.join x y) = .tuple [.str (a0Q "join"),.str x,.str y] from rfl]
   walk_at "r"
   refine AB (d:=.str (a0Q "join")) (AC (j:=0) rfl) ?_
   walk_at "r"
   refine AB (d:=.str x) (AC (j:=1) rfl) ?_
   walk_at "r"
   refine⟨_,_,rfl,?_⟩
   walk_at "r"
   refine AR (t:=false) (by decide +kernel) ?_
   walk_at "r"
   refine AR (t:=false) (by decide +kernel) ?_
   walk_at "r"
   refine AR (t:=false) (by decide +kernel) ?_
   walk_at "r"
   refine AR (t:=false) (by decide +kernel) ?_
   walk_at "r"
   refine AR (t:=false) (by decide +kernel) ?_
   walk_at "r"
   refine AR (t:=false) (by decide +kernel) ?_
   walk_at "r"
   refine MT ?_
   walk_at "r"
   refine AB (d:=.str y) (AC (j:=2) rfl) ?_
   refine⟨p,tsD ts,y,pcD u.1 u.2,rfl,rfl,m,by rw[D9,hu'];rfl,?_⟩
   walk_at "r"
   refine AB (ds:=[.int u.1,.int u.2]) (d:=.int u.2) (AC (j:=1) rfl) ?_
   walk_at "r"
   refine RT m hv h64 ?_
   walk_at "r"
   refine eO ?_
   walk_at "r"
   refine AB (d:=.str y) (AC (j:=2) rfl) ?_
   refine⟨p,tsD (KW ts x u.2),y,rfl,rfl,zU,by rw[D9,c0J,IC,E3,← IC,hu'];rfl,?_⟩
   rw[yI]
   refine⟨_,zT _,fun p' ts' D' e m'=>?_⟩
   obtain⟨rfl,rfl,rfl⟩:=ID (D:=Deed.join x y) m e m'
   refine⟨rfl,?_⟩
   rw[RR];simp only[doT,hu']
end
def rQ:List Str:=["world", "deed", "things"]
theorem fT:FnScope rQ ["world", "deed"] (AA WV):=⟨rfl,rfl,rfl,by decide +kernel,rfl,by decide +kernel,by decide +kernel⟩
theorem rR {f:Addr}{fd:FuncData}(F:Fun K "done" "done" WV f fd) (h_by_names:Has P w K mg base "by_names" 1 ["world"] FW) (h_change:Has P w K mg base "change" 2 ["things", "deed"] JJ) (h_refuse_undoable:Has P w K mg base "refuse_undoable" 6 ["things", "deed"] BF) (h_rising_by_names:Has P w K mg base "rising_by_names" 1 ["things"] BE):FnOk P w K mg base CX0 7 f fd ["world", "deed"] (spD K 2 RS):=by
 refine fnD F fT fun cdv A outer s H E hr=>?_
 have hu:=hr.units
 have nd:=fT.nd
 refine⟨_,by walk_at "b2", ?_⟩
 clear nd
 rintro xs M hl ⟨w,D,rfl,hg⟩
 obtain⟨n1,n2⟩:=c7 hg
 obtain⟨hc,hr,ha⟩:=hg
 walk_at "r"
 refine T2 hc fun p hp=>?_
 walk_at "r"
 refine Z5 zU hr ha ?_
 walk_at "r"
 refine Z6 zU hc hr ha ?_
 rw[yI]
 walk_at "r"
 refine Z4 zU n1 n2 ?_
 refine⟨M,(zT M).put hp,fun w' D' e=>?_⟩
 obtain⟨rfl,rfl⟩:=wY e
 exact⟨rfl,rfl⟩
def P4:List Str:=["book"]
def L9:List Str:=["hand", "deed"]
def LA:List (Option Nat):=[none,none]
theorem T7:L9.Nodup:=by decide +kernel
theorem P5:FnScope P4 ["book"] (AA G1):=⟨rfl,rfl,rfl,by decide +kernel,rfl,by decide +kernel,by decide +kernel⟩
section
local macro_rules | `(tactic| walk_at "cs")=>`(tactic| first | exact @FY _ _ L9 LA (AA G1) P4 (by decide +kernel) (by decide +kernel) rfl rfl)
local macro_rules | `(tactic| walk_at "x")=>`(tactic| first | ((with_reducible show PG _ (.Tuple ..) _);exact @MK _ K _ _ _ _ (2) rfl rfl (by walk_at "j") (by rfl) (by rfl)))
theorem a9 {f:Addr}{fd:FuncData}(F:Fun K "deeds_of" "deeds_of" G1 f fd) (n_tuple:mg "tuple"=none):FnOk P w K mg base CX0 1 f fd ["book"] (spD K 1 HF):=by
 refine fnD F P5 fun cdv A outer s H E hr=>?_
 have hu:=hr.units
 have nd:=P5.nd
 have n0:=T7
 refine⟨_,by walk_at "b1", ?_⟩
 clear nd n0
 rintro xs M hl ⟨w,ls,rfl,hg⟩
 walk_at "r"
 refine AE (JA (B5 (B5 HP))) (by simp[LA]) ?_
 refine CI ?_
 walk_at "r"
 refine AB (ds:=[wD w,BL ls]) (d:=BL ls) rfl ?_
 walk_at "r"
 refine⟨by rw[zX];exact zQ hg (by decide),fun _=>true,fun d=>match d with | .tuple [_,b]=>b | d=>d,?_,?_⟩
 · intro d hd M'
   obtain⟨l,hl,rfl⟩:=zL.mp hd
   rw[show BS l = .tuple [.str l.1,l.2.d] from rfl]
   walk_at "r"
   refine⟨rfl,?_⟩
   walk_at "dl"
   refine⟨rfl,rfl,fun _=>?_⟩
   walk_at "r"
   exact⟨rfl,rfl⟩
 · walk_at "r"
   refine KJ ?_
   refine⟨M,zT M,fun w' ls' e=>?_⟩
   simp only[List.cons.injEq,DS.d.injEq,and_true] at e
   have e:=O7 e
   subst e
   refine⟨?_,rfl⟩
   rw[c6,zD,zD]
   rfl
end
def OD:List Str:=["book", "made"]
def P6:List Str:=["deed"]
def P7:List (Option Nat):=[none]
theorem aA:P6.Nodup:=by decide +kernel
def P8:List Str:=["number", "name"]
def P9:List (Option Nat):=[none,none]
theorem aB:P8.Nodup:=by decide +kernel
theorem V9:FnScope OD ["book"] (AA HL):=⟨rfl,rfl,rfl,by decide +kernel,rfl,by decide +kernel,by decide +kernel⟩
section
local macro_rules | `(tactic| walk_at "cs")=>`(tactic| first | exact @FY _ _ P6 P7 (AA HL) OD (by decide +kernel) (by decide +kernel) rfl rfl | exact @FY _ _ P8 P9 (AA HL) OD (by decide +kernel) (by decide +kernel) rfl rfl)
local macro_rules | `(tactic| walk_at "x")=>`(tactic| first | ((with_reducible show PI _ _ (.Call (.Name (a0Q "enumerate") _) ..) _);exact @sU _ K _ _ _ _ _ _ _ rfl rfl n_enumerate (by walk_at "a") (by rfl)) | ((with_reducible show PG _ (.Tuple ..) _);exact @MK _ K _ _ _ _ (2) rfl rfl (by walk_at "j") (by rfl) (by rfl)))
theorem iX {f:Addr}{fd:FuncData}(F:Fun K "makers" "makers" HL f fd) (n_enumerate:mg "enumerate"=none) (h_deeds_of:Has P w K mg base "deeds_of" 1 ["book"] HF) (h_made_by:Has P w K mg base "made_by" 1 ["deed"] HB):FnOk P w K mg base CX0 2 f fd ["book"] (spD K 1 JR):=by
 refine fnD F V9 fun cdv A outer s H E hr=>?_
 have hu:=hr.units
 have hu1:=zQ (a3Q (show 1<=64 by decide) _) hu
 have nd:=V9.nd
 have n0:=aA
 have n1:=aB
 refine⟨_,by walk_at "b2", ?_⟩
 clear nd n0 n1
 rintro xs M hl ⟨w,ls,rfl,hg⟩
 have hrl:∀D∈dsL ls,D.real:=fun D hD=>by
   obtain⟨l,h1,rfl⟩:=zL.mp hD
   exact hg.real l h1
 have hsz:ls.length < sizeLine:=zQ hg.few (by decide)
 walk_at "r"
 refine AE (B3 0) (by simp[P7]) ?_
 refine CI ?_
 walk_at "r"
 refine WL hg.few ?_
 refine⟨_,rfl,by rw[zX,zX];exact hsz,fun _=>true,IT,?_,?_⟩
 · intro d hd M'
   obtain⟨D,hD,rfl⟩:=zL.mp hd
   walk_at "dl"
   refine⟨rfl,?_⟩
   walk_at "dl"
   refine⟨rfl,rfl,fun _=>?_⟩
   walk_at "r"
   refine AF (JI (hrl D hD)) ?_
   exact⟨rfl,rfl⟩
 · rw[c6,zD]
   walk_at "r"
   refine YW (JA (B5 (B5 HP))) (by simp[P9]) ?_
   refine dW ?_
   walk_at "r"
   have emk:(((D5 ((dsL ls).map (IT∘Deed.d))).filter cEn).map fun d=>(fEn d,wEn d))=mkL (dsL ls) 0:=fE (dsL ls) 0
   refine⟨by unfold D5;rw[zX,b5Z,zX,zX];exact hsz,cEn,fEn,wEn,?_,?_,fun p hp=>?_⟩
   · have:=V4 (dsL ls) 0 hg.fresh.one
     rw[← emk,zD] at this
     exact this
   · intro d hd M'
     obtain⟨q,hq,rfl⟩:=zL.mp hd
     obtain⟨D,hD,eD⟩:∃D∈dsL ls,IT D.d=q.1:=by
       obtain⟨D,a,b⟩:=zL.mp (List.fst_mem_of_mem_zipIdx hq)
       exact⟨D,a,b⟩
     rw[← eD]
     rcases (show IT D.d = .none∨∃x,IT D.d = .str x by rw[WA];cases D.made with | none=>exact .inl rfl | some x=>exact .inr ⟨x,rfl⟩) with e | ⟨x,e⟩ <;> rw[e]
     · walk_at "r"
       refine⟨rfl,?_⟩
       walk_at "r"
       refine RF ?_
       exact⟨_,rfl,rfl,rfl,fun h=>absurd h nft⟩
     · walk_at "r"
       refine⟨rfl,?_⟩
       walk_at "r"
       refine RF ?_
       refine⟨_,rfl,rfl,rfl,fun _=>?_⟩
       walk_at "r"
       refine⟨rfl,rfl,?_⟩
       walk_at "r"
       exact⟨rfl,rfl⟩
   · rw[emk]
     refine⟨_,zT _,fun w' ls' e=>?_⟩
     simp only[List.cons.injEq,DS.d.injEq,and_true] at e
     have e:=O7 e
     subst e
     exact⟨p,hp,rfl,rfl⟩
end
def aC:List Str:=["world", "name", "standing", "place", "count"]
theorem PB:FnScope aC ["world", "name"] (AA IO):=⟨rfl,rfl,rfl,by decide +kernel,rfl,by decide +kernel,by decide +kernel⟩
section
local macro_rules | `(tactic| walk_at "x")=>`(tactic| first | ((with_reducible show PG _ (.Tuple ..) _);exact @MK _ K _ _ _ _ (3) rfl rfl (by walk_at "j") (by rfl) (by rfl)))
theorem aD {f:Addr}{fd:FuncData}(F:Fun K "thing_of" "thing_of" IO f fd):FnOk P w K mg base CX0 1 f fd ["world", "name"] (spD K 2 HG):=by
 refine fnD F PB fun cdv A outer s H E hr=>?_
 have hu:=hr.units
 have nd:=PB.nd
 refine⟨_,by walk_at "b2", ?_⟩
 clear nd
 rintro xs M hl ⟨w,e,rfl,hw,he⟩
 have hse:zH (WM e)=true:=ZI fun z hz=>(he z hz).1
 walk_at "r"
 refine LP ?_
 refine CI ?_
 walk_at "r"
 refine⟨fun k ρ' M'=>M'=M/\∃x y z:Option DS,ρ'=[some (.d (wD w)),some (.d (WM e)),x,y,z],⟨rfl,_,_,_,rfl⟩,?_,?_⟩
 · rintro k d ρ' M' hd ⟨rfl,x,y,z,rfl⟩
   obtain⟨t,ht,rfl⟩:=zL.mp (yN hd)
   rw[show thD t = .tuple [.str t.1,.int t.2.1,.int t.2.2] from rfl]
   walk_at "r"
   refine AQ (AL (hw t ht)) hse ?_
   rw[if_neg nft,show a0X t.1=WM (some t.1) from rfl,nD,decide_eq_false (fun q=>(he t.1 q.symm).2 (zL.mpr ⟨t,ht,rfl⟩))]
   walk_at "r"
   exact⟨rfl,_,_,_,rfl⟩
 · rintro ρ' M' ⟨rfl,x,y,z,rfl⟩
   walk_at "r"
   exact⟨_,zT _,rfl,rfl⟩
end
def cR:List Str:=["world", "book", "hand", "deed", "made"]
theorem SQ:FnScope cR ["world", "book", "hand", "deed"] (AA KS):=⟨rfl,rfl,rfl,by decide +kernel,rfl,by decide +kernel,by decide +kernel⟩
section
local macro_rules | `(tactic| walk_at "x")=>`(tactic| first | ((with_reducible show PT _ (.Compare _ [.In] ..) _);exact @tJ _ _ _ _ _ _ (@rE _ _ _ _ _ hu1 (by walk_at "e") (by walk_at "e")) (by with_unfolding_all rfl)))
theorem cS {f:Addr}{fd:FuncData}(F:Fun K "told_on" "told_on" KS f fd) (h_done:Has P w K mg base "done" 7 ["world", "deed"] RS) (h_is_deed:Has P w K mg base "is_deed" 5 ["thing"] FM) (h_is_name:Has P w K mg base "is_name" 1 ["thing"] GW) (h_made_by:Has P w K mg base "made_by" 1 ["deed"] HB) (h_makers:Has P w K mg base "makers" 2 ["book"] JR) (h_thing_of:Has P w K mg base "thing_of" 1 ["world", "name"] HG):FnOk P w K mg base CX0 8 f fd ["world", "book", "hand", "deed"] (spD K 4 JT):=by
 refine fnD F SQ fun cdv A outer s H E hr=>?_
 have hu:=hr.units
 have hu1:=zQ (a3Q (show 1<=64 by decide) _) hu
 have nd:=SQ.nd
 refine⟨_,by walk_at "b2", ?_⟩
 clear nd
 rintro xs M hl ⟨W,w,ls,h,D,rfl,hh,hg,hgo,hw,hnew⟩
 have hr:=hgo.2.1
 walk_at "r"
 refine AF (MM hh) ?_
 rw[QW hh]
 walk_at "r"
 refine AF (WE hr.1) ?_
 rw[Q6 hr]
 walk_at "r"
 refine AF (JI hr) ?_
 rw[xA]
 walk_at "r"
 refine AB (ds:=[wD w,BL ls]) (d:=wD w) rfl ?_
 walk_at "r"
 refine WO hw (fun x e=>⟨nC hr e,(hnew x e).1⟩) ?_
 walk_at "r"
 refine RF ?_
 rw[show(!CT .none)=false from rfl]
 walk_at "r"
 refine rF ?_
 walk_at "r"
 refine ZG hg fun p hp=>?_
 refine⟨p,mkL (dsL ls) 0,D.made,rfl,by rw[nK],zU,?_⟩
 rw[A0t hg fun x e=>(hnew x e).2]
 walk_at "r"
 refine i8 hgo ?_
 refine⟨M,(zT M).put hp,fun W' w' ls' h' D' e=>?_⟩
 simp only[List.cons.injEq,DS.d.injEq,and_true] at e
 obtain⟨e1,-,-,e2⟩:=e
 obtain rfl:=WB e1
 obtain rfl:=JK e2
 exact⟨rfl,rfl⟩
end
def PM:List Str:=["thing", "start", "lines", "here", "number", "line"]
theorem IU:FnScope PM ["thing"] (AA DH):=⟨rfl,rfl,rfl,by decide +kernel,rfl,by decide +kernel,by decide +kernel⟩
section
local macro_rules | `(tactic| walk_at "x")=>`(tactic| first | ((with_reducible show PS _ (.Assign [.Tuple ..] ..) _);exact @GM _ _ _ _ _ _ (by walk_at "e") (by walk_at "g") (by rfl) (by rfl) (by rfl)) | ((with_reducible show PG _ (.Tuple ..) _);exact @UQ _ K _ _ _ _ (2) rfl rfl (by walk_at "j") (by rfl) (by rfl)) | ((with_reducible show PI _ _ (.Call (.Name (a0Q "enumerate") _) ..) _);exact @x9 _ K _ _ _ _ _ _ _ rfl rfl n_enumerate (by walk_at "a") (by rfl)) | ((with_reducible show PG _ (.Tuple ..) _);exact @MK _ K _ _ _ _ (2) rfl rfl (by walk_at "j") (by rfl) (by rfl)) | ((with_reducible show PS _ (.Try ..) _);exact @fG _ _ _ _ _ _ (fun _ _ h=>h) (by walk_at "q")))
theorem PN {f:Addr}{fd:FuncData}(F:Fun K "checked_book" "checked_book" DH f fd) (n_enumerate:mg "enumerate"=none) (n_isinstance:mg "isinstance"=none) (n_len:mg "len"=none) (n_tuple:mg "tuple"=none) (h_is_world:Has P w K mg base "is_world" 5 ["thing"] LQ) (h_told_on:Has P w K mg base "told_on" 8 ["world", "book", "hand", "deed"] JT):FnOk P w K mg base CX0 9 f fd ["thing"] (spD K 1 HH):=by
 refine fnD F IU fun cdv A outer s H E hr=>?_
 have hu:=hr.units
 have nd:=IU.nd
 refine⟨_,by walk_at "b2", ?_⟩
 clear nd
 rintro xs M hl ⟨w,ls,rfl,h⟩
 have hg:=h.good
 have hw:=h.fine
 have hlen:=h.len
 have hb:=h.book
 have hdl:(dsL ls).length=ls.length:=zX _
 walk_at "r"
 rw[show AV w ls = .tuple [wD w,BL ls] from rfl]
 walk_at "r"
 refine E7 ?_
 walk_at "r"
 refine AQ rfl rfl ?_
 rw[if_pos rfl,show a0W (.int (([wD w,BL ls].length:Nat):Int)) (.int 2)=true from rfl]
 walk_at "r"
 refine EW ?_
 walk_at "r"
 refine AF (nL hw (by omega)) ?_
 rw[cK hw]
 walk_at "r"
 refine LP ?_
 refine n6 ?_
 walk_at "r"
 have hle:(D5 (ls.map BS)).length=ls.length:=by unfold D5;rw[zX,b5Z,zX]
 refine⟨fun k ρ1 M1=>M1=M/\k<=ls.length/\∃(x1 x2:Option DS),ρ1=[some (.d (.tuple [wD w,BL ls])),some (.d (wD w)),some (.d (BL ls)),some (.d (wD (wsF w (dsL ls) k))),x1,x2],⟨rfl,xT _,_,_,rfl⟩,?_,?_⟩
 · rintro k d ρ1 M1 hd ⟨rfl,hk,x1,x2,rfl⟩
   have hkl:k < ls.length:=by rw[← hle];exact(yT.mp hd).1
   obtain⟨l,hlk,hlm,hll,hld⟩:=rA hkl
   obtain rfl:d = .tuple [.int (k:Nat),.tuple [.str l.1,l.2.d]]:=by
     unfold D5 at hd
     rw[zF,b7W,hll] at hd
     simpa using hd.symm
   obtain⟨f1,f2,f3⟩:=WG hb hw (by omega) (show k<=(dsL ls).length by omega)
   have hgo:=f3 _ hld
   walk_at "r"
   refine E7 ?_
   walk_at "r"
   refine AQ rfl rfl ?_
   rw[if_pos rfl,show a0W (.int (([a0X l.1,l.2.d].length:Nat):Int)) (.int 2)=true from rfl]
   walk_at "r"
   refine JC ?_
   rw[VS,← b8Q]
   walk_at "r"
   refine AB (ds:=[.str l.1,l.2.d]) (d:=.str l.1) rfl ?_
   walk_at "r"
   refine AB (ds:=[.str l.1,l.2.d]) (d:=l.2.d) rfl ?_
   walk_at "r"
   refine ZM (hg.hands l hlm) (V7 hg k) hgo (fun t ht=>(hw.2 t ht).1) (h.new hlk) ?_
   walk_at "r"
   exact⟨rfl,by omega,_,_,by rw[qW hld];rfl⟩
 · rintro ρ1 M1 ⟨rfl,hk,x1,x2,rfl⟩
   walk_at "r"
   exact⟨_,zT _,fun d e=>(List.cons.inj e).1,rfl⟩
end
def T8:List Str:=["number", "groups", "low"]
theorem E8:FnScope T8 ["number"] (AA DJ):=⟨rfl,rfl,rfl,by decide +kernel,rfl,by decide +kernel,by decide +kernel⟩
section
local macro_rules | `(tactic| walk_at "x")=>`(tactic| first | ((with_reducible show PS _ (.While ..) _);exact @XG _ _ _ _ _ _ PassesOwn.never (by walk_at "t") (@NS _ _)) | ((with_reducible show PE _ (.Call (.Attribute _ (a0Q "join") _) ..) _);exact @YG _ K _ _ _ _ _ _ _ _ _ _ rfl (by walk_at "e") hr.hd rfl n_reversed PyProof.Rows.boot_reversed (by decide) (by decide) (by rfl) (by rfl) (by rfl) (by rfl) (by rfl)))
local macro_rules | `(tactic| walk_at "y")=>`(tactic| first | ((with_reducible show PE _ (.Call (.Name (a0Q "str") _) ..) _);exact @FK _ _ _ _ _ _ _ _ _ (@vL _ K rfl) (by rfl) n_str b0K (by walk_at "a") (by decide) (by decide) (by rfl) (by rfl)))
local macro_rules | `(tactic| walk_at "z")=>`(tactic| first | ((with_reducible show PS _ (.If ..) _);exact @j4 _ _ _ _ _ _ _ _ (by walk_at "t") (@NS _ _) (by walk_at "q")))
theorem SR {f:Addr}{fd:FuncData}(F:Fun K "show_whole" "show_whole" DJ f fd) (n_reversed:mg "reversed"=none) (n_str:mg "str"=none) (g_GROUP:∃t,mg "GROUP"=some (.int (1000000000000000000) t)):FnOk P w K mg base CX0 1 f fd ["number"] (spD K 1 GO):=by
 refine fnD F E8 fun cdv A outer s H E hr=>?_
 have hu:=hr.units
 have nd:=E8.nd
 refine⟨_,by walk_at "b2", ?_⟩
 clear nd
 rintro xs M hl ⟨d,rfl,n,rfl,hn⟩
 have hb:big n:=dZ hn
 walk_at "r"
 refine KH ?_
 walk_at "r"
 intro q hq
 walk_at "dl"
 refine UJ ?_
 walk_at "r"
 refine⟨decide_eq_false (by omega),?_⟩
 walk_at "r"
 refine CO ?_
 walk_at "dl"
 refine⟨MI zU,?_⟩
 walk_at "r"
 refine QN (MQ hb) ?_
 walk_at "r"
 refine GU zU (by show 0 < sizeLine;decide) ?_
 rw[yI]
 walk_at "r"
 refine OJ ?_
 walk_at "r"
 refine⟨q,[AI (n:Int)],rfl,zU,?_,?_⟩
 · have:=(B1 hb).2
   rw[show(a0Q "").length=0 from rfl,Nat.mul_zero]
   simp only[zI,a7W,c2W,List.sum_nil]
   omega
 refine⟨M,(zT M).put hq,fun d' e=>?_⟩
 cases e
 exact⟨rfl,rfl⟩
end
section
local macro_rules | `(tactic| walk_at "x")=>`(tactic| first | ((with_reducible show PS _ (.While ..) _);exact @XG _ _ _ _ _ _ PassesOwn.never (by walk_at "t") (@NS _ _)) | ((with_reducible show PE _ (.Call (.Attribute _ (a0Q "join") _) ..) _);exact @YG _ K _ _ _ _ _ _ _ _ _ _ rfl (by walk_at "e") hr.hd rfl n_reversed PyProof.Rows.boot_reversed (by decide) (by decide) (by rfl) (by rfl) (by rfl) (by rfl) (by rfl)))
local macro_rules | `(tactic| walk_at "y")=>`(tactic| first | ((with_reducible show PE _ (.Call (.Name (a0Q "str") _) ..) _);exact @FK _ _ _ _ _ _ _ _ _ (@vL _ K rfl) (by rfl) n_str b0K (by walk_at "a") (by decide) (by decide) (by rfl) (by rfl)))
theorem T9 {f:Addr}{fd:FuncData}(F:Fun K "show_whole" "show_whole" DJ f fd) (n_reversed:mg "reversed"=none) (n_str:mg "str"=none) (g_GROUP:∃t,mg "GROUP"=some (.int (1000000000000000000) t)) (h_show_whole0:Has P w K mg base "show_whole" 1 ["number"] GO):FnOk P w K mg base CX0 2 f fd ["number"] (spD K 1 F7):=by
 refine fnD F E8 fun cdv A outer s H E hr=>?_
 have hu:=hr.units
 have nd:=E8.nd
 refine⟨_,by walk_at "b2", ?_⟩
 clear nd
 rintro xs M hl ⟨d,rfl,n,rfl,hb⟩
 have hb2:=hb.2
 walk_at "r"
 by_cases h0:n < 0
 · rw[if_pos (decide_eq_true h0)]
   obtain⟨m,rfl⟩:∃m:Nat,n = -((m:Int)+1):=⟨(-n - 1).toNat,by omega⟩
   have hm:m+1 < 1000000000000000000:=by have:=hb.1;omega
   walk_at "r"
   refine AF (d:=.int (- -((m:Int)+1))) ⟨m+1,by rw[Int.neg_neg];rfl,hm⟩ ?_
   rw[Int.neg_neg]
   have hl:(a0Q "-").length+(AI ((m:Int)+1)).length<=sizeLine:=by
     have:(AI ((m:Int)+1)).length<=19:=(B1 (n:=((m+1:Nat):Int)) (dZ hm)).2
     rw[show(a0Q "-").length=1 from rfl,sizeLine_eq]
     exact zN (a3Q this 1) (by decide)
   refine BC hl ?_
   refine⟨M,zT M,fun d' e=>?_⟩
   cases e
   exact⟨congrArg (fun z=>DS.d (.str z)) (YI m).symm,rfl⟩
 · rw[if_neg (by rw[decide_eq_false h0];exact nft)]
   walk_at "r"
   refine KH ?_
   walk_at "r"
   intro q hq
   walk_at "dl"
   refine UJ ?_
   walk_at "r"
   refine⟨decide_eq_false (by omega),?_⟩
   walk_at "r"
   refine CO ?_
   walk_at "dl"
   refine⟨MI zU,?_⟩
   walk_at "r"
   refine QN (MQ hb) ?_
   walk_at "r"
   refine GU zU (by show 0 < sizeLine;decide) ?_
   rw[yI]
   walk_at "r"
   refine OJ ?_
   walk_at "r"
   refine⟨q,[AI n],rfl,zU,?_,?_⟩
   · have:=(B1 hb).2
     rw[show(a0Q "").length=0 from rfl,Nat.mul_zero]
     simp only[zI,a7W,c2W,List.sum_nil]
     omega
   refine⟨M,(zT M).put hq,fun d' e=>?_⟩
   cases e
   exact⟨rfl,rfl⟩
end
def EQ:List Str:=["text"]
def DO:List Str:=["sign"]
def DQ:List (Option Nat):=[none]
theorem IP:DO.Nodup:=by decide +kernel
theorem ER:FnScope EQ ["text"] (AA B8):=⟨rfl,rfl,rfl,by decide +kernel,rfl,by decide +kernel,by decide +kernel⟩
section
local macro_rules | `(tactic| walk_at "cs")=>`(tactic| first | exact @FY _ _ DO DQ (AA B8) EQ (by decide +kernel) (by decide +kernel) rfl rfl)
local macro_rules | `(tactic| walk_at "x")=>`(tactic| first | ((with_reducible show PE _ (.Compare _ [.In] ..) _);exact @E5 _ _ _ _ _ _ _ _ (@kIn _ K rfl) (by walk_at "e") (by walk_at "e") (by with_unfolding_all rfl)))
theorem K0 {f:Addr}{fd:FuncData}(F:Fun K "is_row_of_figures" "is_row_of_figures" B8 f fd) (n_all:mg "all"=none) (n_len:mg "len"=none) (g_FIGURES:∃t,mg "FIGURES"=some (.str ("0123456789") t)):FnOk P w K mg base CX0 1 f fd ["text"] (spD K 1 CM):=by
 refine fnD F ER fun cdv A outer s H E hr=>?_
 have hu:=hr.units
 have nd:=ER.nd
 have n0:=IP
 refine⟨_,by walk_at "b1", ?_⟩
 clear nd n0
 rintro xs M hl ⟨d,rfl,n,rfl,hn⟩
 obtain⟨d1,d2,d3,d4,d5⟩:=GY n
 have h18:=d5 17 hn
 have hp:0 < (B7 n).length:=List.length_pos_iff.mpr d2
 have hz:(⟨⟨B7 n⟩⟩:Str).length<=sizeLine:=zN h18 (by decide)
 walk_at "r"
 refine MJ hz ?_
 walk_at "r"
 rw[show decide ((0:Int) < ((⟨⟨B7 n⟩⟩:Str).length:Int))=true from decide_eq_true (Int.ofNat_lt.mpr hp)]
 walk_at "r"
 refine AE (B3 0) (by simp[DQ]) ?_
 refine VO ?_
 walk_at "r"
 refine⟨by simp only[AK,zX];exact zQ h18 (by decide),fun _=>true,fun _=>.bool true,?_,?_⟩
 · intro d hd' M'
   obtain⟨c,hc,rfl⟩:=zL.mp hd'
   walk_at "dl"
   refine⟨rfl,?_⟩
   walk_at "dl"
   refine⟨rfl,rfl,fun _=>?_⟩
   walk_at "r"
   refine dP ?_
   rw[pY (d1 c hc)]
   exact⟨rfl,rfl⟩
 · rw[bL]
   walk_at "r"
   refine QO ?_
   rw[A0f]
   exact⟨M,zT M,fun d' e=>by cases e;exact⟨rfl,rfl⟩⟩
end
def TB:List Str:=["text", "below", "figures", "number", "figure"]
theorem LB:FnScope TB ["text"] (AA FC):=⟨rfl,rfl,rfl,by decide +kernel,rfl,by decide +kernel,by decide +kernel⟩
section
local macro_rules | `(tactic| walk_at "x")=>`(tactic| first | ((with_reducible show PE _ (.Call (.Attribute _ (a0Q "startswith") _) ..) _);exact @kBm _ K _ _ _ _ _ _ _ _ _ _ _ rfl a1Q b7J b7Z (@JE _ K rfl) (by walk_at "e") (by walk_at "a") (by rfl) (by rfl) (by rfl) (by rfl) (by rfl)) | ((with_reducible show PE _ (.BinOp _ .Mult ..) _);exact @OF _ _ _ _ _ _ _ _ (@tW _) (by walk_at "e") (by walk_at "e")) | ((with_reducible show PE _ (.Call (.Attribute _ (a0Q "index") _) ..) _);exact @kBm _ K _ _ _ _ _ _ _ _ _ _ _ rfl a1Q PySem.F.slot_str_index PySem.F.type_str_index (@w9 _ K rfl) (by walk_at "e") (by walk_at "a") (by rfl) (by rfl) (by rfl) (by rfl) (by rfl)))
theorem TC {f:Addr}{fd:FuncData}(F:Fun K "read_whole" "read_whole" FC f fd) (g_FIGURES:∃t,mg "FIGURES"=some (.str ("0123456789") t)) (h_is_row_of_figures:Has P w K mg base "is_row_of_figures" 1 ["text"] CM):FnOk P w K mg base CX0 2 f fd ["text"] (spD K 1 F8):=by
 refine fnD F LB fun cdv A outer s H E hr=>?_
 have hu:=hr.units
 have nd:=LB.nd
 refine⟨_,by walk_at "b2", ?_⟩
 clear nd
 rintro xs M hl ⟨d,rfl,n,rfl,hb⟩
 obtain⟨m,hm,hc⟩:=KL n hb
 obtain⟨d1,d2,d3,d4,d5⟩:=GY m
 have h18:=d5 17 hm
 have hz:(AI n).length<=sizeLine:=zN (B1 hb).2 (by decide)
 have hz2:(⟨⟨B7 m⟩⟩:Str).length<=sizeLine:=zN h18 (by decide)
 have hst:b1J (AI n) (a0Q "-")=decide (n < 0):=by
   rw[W1]
   rcases hc with ⟨h0,_,e⟩ | ⟨h0,_,_,e⟩
   · rw[e,decide_eq_false (show ¬n < 0 by omega)]
     refine decide_eq_false fun h=>?_
     have:=d1 45 (b6W h)
     omega
   · rw[e,decide_eq_true h0];rfl
 walk_at "r"
 refine CO ?_
 walk_at "dl"
 refine⟨BI,?_⟩
 walk_at "r"
 refine NZ ?_
 rw[hst]
 refine NW (fun ρ1 M1=>M1=M/\ρ1=[some (.d (.str (AI n))),some (.d (.bool (decide (n < 0)))),some (.d (.str ⟨⟨B7 m⟩⟩)),none,none]) ?_ ?_
 · walk_at "r"
   rcases hc with ⟨h0,hn,e⟩ | ⟨h0,hn,hm0,e⟩
   · rw[if_neg (by rw[decide_eq_false (show ¬n < 0 by omega)];exact nft)]
     walk_at "r"
     refine⟨rfl,?_⟩
     rw[show AI n=⟨⟨B7 m⟩⟩ from C7 e]
     rfl
   · rw[if_pos (decide_eq_true h0)]
     walk_at "r"
     refine GV hz ?_
     rw[show a1X (AI n) (some 1) none=⟨⟨B7 m⟩⟩ from C7 (by rw[show(1:Int)=((1:Nat):Int) from rfl,E1,e];rfl)]
     exact⟨rfl,rfl⟩
 · rintro ρ1 M1 ⟨rfl,rfl⟩
   obtain⟨y,ys,hd⟩:∃y ys,B7 m=y::ys:=by cases h:B7 m with | nil=>exact absurd h d2 | cons y ys=>exact⟨y,ys,rfl⟩
   have hy:=d1 y (by rw[hd];simp)
   refine NW (fun ρ2 M2=>M2=M1/\ρ2=[some (.d (.str (AI n))),some (.d (.bool (decide (n < 0)))),some (.d (.str ⟨⟨B7 m⟩⟩)),none,none]) ?_ ?_
   · walk_at "r"
     refine AF ⟨m,rfl,hm⟩ ?_
     walk_at "r"
     refine Q1 (c:=y) hz2 (AC (j:=0) (by rw[show(⟨⟨B7 m⟩⟩:Str).cps.toList=y::ys from hd];rfl)) ?_
     walk_at "r"
     have h0s:zH (.str (a0Q "0"))=true:=by decide +kernel
     refine AQ (HV fun c hc'=>by have e:c=y:=(by simpa using hc');rw[e];omega) h0s ?_
     rw[if_neg nft,RC]
     by_cases h48:y=48
     · subst h48
       have hm0:=d4 ys hd
       subst hm0
       rw[show((⟨#[48]⟩:Str)==a0Q "0")=true by decide +kernel]
       have hn0:n=0:=by rcases hc with ⟨_,e,_⟩ | ⟨_,_,e,_⟩ <;> omega
       subst hn0
       walk_at "r"
       refine AQ (by decide +kernel) h0s ?_
       rw[if_pos rfl,show a0W (.str (AI 0)) (.str (a0Q "0"))=true by decide +kernel]
       walk_at "r"
       exact⟨rfl,rfl⟩
     · rw[show((⟨#[y]⟩:Str)==a0Q "0")=false by
         rw[show a0Q "0"=⟨#[48]⟩ by decide +kernel,beq_eq_false_iff_ne]
         intro e
         injection e with e
         exact h48 (by simpa using e)]
       walk_at "r"
       exact⟨rfl,rfl⟩
   · rintro ρ2 M2 ⟨rfl,rfl⟩
     walk_at "r"
     refine LP ?_
     refine VO ?_
     walk_at "r"
     refine⟨fun k ρ' M'=>M'=M2/\∃z,ρ'=[some (.d (.str (AI n))),some (.d (.bool (decide (n < 0)))),some (.d (.str ⟨⟨B7 m⟩⟩)),some (.d (.int (R9 ((B7 m).take k) 0))),z],⟨rfl,_,rfl⟩,?_,?_⟩
     · rintro k d ρ' M' hdk ⟨rfl,z,rfl⟩
       unfold AK at hdk
       rw[zF] at hdk
       cases hk:(B7 m)[k]? with
       | none=>rw[show(⟨⟨B7 m⟩⟩:Str).cps.toList[k]?=none from hk] at hdk;cases hdk
       | some c=>
         rw[show(⟨⟨B7 m⟩⟩:Str).cps.toList[k]?=some c from hk] at hdk
         cases hdk
         obtain⟨r,hr⟩:=lL (d1 c (yN hk))
         walk_at "r"
         refine CO ?_
         walk_at "r"
         refine⟨BI,?_⟩
         walk_at "r"
         refine lI hr ?_
         walk_at "r"
         refine⟨rfl,some (.d (.str ⟨#[c]⟩)),?_⟩
         have ev:R9 ((B7 m).take (k+1)) 0=R9 ((B7 m).take k) 0*10+((c - 48:Nat):Int):=by
           unfold R9
           rw[a4X,hk,List.foldl_append]
           rfl
         rw[ev]
         rfl
     · rintro ρ' M' ⟨rfl,z,rfl⟩
       rw[show(AK (⟨⟨B7 m⟩⟩:Str)).length=(B7 m).length by simp[AK],a2K,d3]
       walk_at "r"
       by_cases h0:n < 0
       · rw[if_pos (decide_eq_true h0)]
         walk_at "r"
         refine⟨_,zT _,fun d' e=>?_⟩
         cases e
         refine⟨congrArg (fun z=>DS.d (.int z)) ?_,rfl⟩
         rw[EC hb]
         rcases hc with ⟨_,e,_⟩ | ⟨_,e,_,_⟩ <;> omega
       · rw[if_neg (by rw[decide_eq_false h0];exact nft)]
         walk_at "r"
         refine⟨_,zT _,fun d' e=>?_⟩
         cases e
         refine⟨congrArg (fun z=>DS.d (.int z)) ?_,rfl⟩
         rw[EC hb]
         rcases hc with ⟨_,e,_⟩ | ⟨_,e,_,_⟩ <;> omega
end
def TD:List Str:=["thing", "name", "place", "count"]
theorem E9:FnScope TD ["thing"] (AA FD):=⟨rfl,rfl,rfl,by decide +kernel,rfl,by decide +kernel,by decide +kernel⟩
theorem TF {f:Addr}{fd:FuncData}(F:Fun K "show_thing" "show_thing" FD f fd) (h_show_whole:Has P w K mg base "show_whole" 2 ["number"] F7):FnOk P w K mg base CX0 3 f fd ["thing"] (spD K 1 HW):=by
 refine fnD F E9 fun cdv A outer s H E hr=>?_
 have hu:=hr.units
 refine⟨_,(@MC _ _ _ _ _ (@GM _ _ _ _ _ _ (@pv _ 0 _ _ (by rfl) (by walk_at "lc") (by decide) (by decide)) (@MK _ (K) _ _ _ _ (3) rfl rfl (@CN _ _ _ _ _ (@CZ _ _ (1) _ E9.nd rfl (by walk_at "lc") (by first   | exact .inl rfl   | exact .inr rfl   | assumption)) (@CN _ _ _ _ _ (@CZ _ _ (2) _ E9.nd rfl (by walk_at "lc") (by first   | exact .inl rfl   | exact .inr rfl   | assumption)) (@CN _ _ _ _ _ (@CZ _ _ (3) _ E9.nd rfl (by walk_at "lc") (by first   | exact .inl rfl   | exact .inr rfl   | assumption)) (@MD _) (by rfl)) (by rfl)) (by rfl)) (by rfl) (by rfl)) (by rfl) (by rfl) (by rfl)) (@KF _ _ _ (@Q8 _ _ _ _ (@w8 _ _ _ _ _ _ (@bG _ _ _ _ _ _ (@pv _ 1 _ _ (by rfl) (by walk_at "lc") (by decide) (by decide)) (@lD _ _ _ _ _ _ (@bG _ _ _ _ _ _ (@UC _ (K) (P) (w) (mg) (base) _ _ _ _ _ _ _ _ _ rfl rfl rfl rfl rfl h_show_whole (hr.mono (by decide)) rfl (@CH _ _ _ _ _ (@pv _ 2 _ _ (by rfl) (by walk_at "lc") (by decide) (by decide)) (@FO _) (by rfl)) (by decide) (by rfl) (by rfl)) (@lD _ _ _ _ _ _ (@bG _ _ _ _ _ _ (@UC _ (K) (P) (w) (mg) (base) _ _ _ _ _ _ _ _ _ rfl rfl rfl rfl rfl h_show_whole (hr.mono (by decide)) rfl (@CH _ _ _ _ _ (@pv _ 3 _ _ (by rfl) (by walk_at "lc") (by decide) (by decide)) (@FO _) (by rfl)) (by decide) (by rfl) (by rfl)) (@w6 _)))))))))),?_⟩
 rintro xs M hl ⟨d,rfl,t,rfl,ht⟩
 have sz:∀k:Nat,k<=1000->k<=sizeLine:=fun k h=>zN h (by decide)
 have l1:t.1.length<=8:=ht.1.2.1
 have l2:=(B1 ht.place).2
 have l3:=(B1 ht.count).2
 rw[show thD t = .tuple [.str t.1,.int t.2.1,.int t.2.2] from rfl]
 walk_at "r"
 refine EW ?_
 walk_at "r"
 refine⟨sz _ (by omega),sz _ (by simp only[CU,JF,GA,KM];omega),?_⟩
 refine lJ (sz _ (by simp only[CU,JF,GA,KM];omega)) ?_
 walk_at "r"
 refine AF ⟨_,rfl,ht.place⟩ ?_
 refine⟨AI t.2.1,rfl,sz _ (by omega),sz _ (by simp only[CU,JF,GA,KM];omega),?_⟩
 refine lJ (sz _ (by simp only[CU,JF,GA,KM];omega)) ?_
 walk_at "r"
 refine AF ⟨_,rfl,ht.count⟩ ?_
 refine⟨AI t.2.2,rfl,sz _ (by omega),sz _ (by simp only[CU,JF,GA,KM];omega),?_⟩
 refine wC (sz _ (by simp only[CU,JF,GA,KM];omega)) ?_
 refine⟨M,zT M,fun d' e=>?_⟩
 cases e
 refine⟨congrArg (fun z=>DS.d (.str z)) ?_,rfl⟩
 show((((Str.empty++t.1)++a0Q "@")++AI t.2.1)++a0Q ":")++AI t.2.2=thS t
 rw[show Str.empty++t.1=t.1 from C7 (by rw[AY];rfl)]
 rfl
def TH:List Str:=["text", "name", "at", "behind_name", "place", "colon", "count", "thing"]
theorem LC:FnScope TH ["text"] (AA FE):=⟨rfl,rfl,rfl,by decide +kernel,rfl,by decide +kernel,by decide +kernel⟩
section
local macro_rules | `(tactic| walk_at "x")=>`(tactic| first | ((with_reducible show PS _ (.Assign [.Tuple ..] ..) _);exact @GM _ _ _ _ _ _ (by walk_at "e") (by walk_at "g") (by rfl) (by rfl) (by rfl)) | ((with_reducible show PE _ (.Call (.Attribute _ (a0Q "partition") _) ..) _);exact @kBm _ K _ _ _ _ _ _ _ _ _ _ _ rfl a1Q c0W PySem.F.type_str_partition (@R6 _ K rfl) (by walk_at "e") (by walk_at "a") (by rfl) (by rfl) (by rfl) (by rfl) (by rfl)) | ((with_reducible show PG _ (.Tuple ..) _);exact @MK _ K _ _ _ _ (3) rfl rfl (by walk_at "j") (by rfl) (by rfl)))
theorem TJ {f:Addr}{fd:FuncData}(F:Fun K "read_thing" "read_thing" FE f fd) (h_is_thing:Has P w K mg base "is_thing" 4 ["thing"] HU) (h_read_whole:Has P w K mg base "read_whole" 2 ["text"] F8):FnOk P w K mg base CX0 5 f fd ["text"] (spD K 1 HX):=by
 refine fnD F LC fun cdv A outer s H E hr=>?_
 have hu:=hr.units
 have nd:=LC.nd
 refine⟨_,by walk_at "b2", ?_⟩
 clear nd
 rintro xs M hl ⟨d,rfl,t,rfl,ht⟩
 obtain⟨e1,e2⟩:=e7 ht
 have hz:(thS t).length<=sizeLine:=zN (FL ht).2 (by decide)
 walk_at "r"
 refine EW ?_
 refine CO ?_
 walk_at "dl"
 refine⟨BI,?_⟩
 walk_at "r"
 refine R8 (by rfl) hz ?_
 rw[e1]
 walk_at "r"
 refine EW ?_
 refine CO ?_
 walk_at "dl"
 refine⟨BI,?_⟩
 walk_at "r"
 refine R8 (by rfl) (zN (lN ht) (by decide)) ?_
 rw[e2]
 walk_at "r"
 refine AF ⟨_,rfl,ht.place⟩ ?_
 walk_at "r"
 refine AF ⟨_,rfl,ht.count⟩ ?_
 walk_at "r"
 have eT:a3J [.str t.1,lM (.str (AI t.2.1)),lM (.str (AI t.2.2))]=thD t:=by
   show a3J [.str t.1,.int (FT (AI t.2.1)),.int (FT (AI t.2.2))]=thD t
   rw[EC ht.place,EC ht.count];rfl
 dsimp only
 rw[eT]
 refine AF (MM ht.1) ?_
 rw[W4 ht]
 walk_at "r"
 refine⟨M,zT M,fun d' e=>?_⟩
 cases e
 exact⟨congrArg DS.d (bM ht).symm,rfl⟩
end
def LE:List Str:=["world"]
def IV:List Str:=["thing"]
def IW:List (Option Nat):=[none]
theorem PP:IV.Nodup:=by decide +kernel
theorem LF:FnScope LE ["world"] (AA DK):=⟨rfl,rfl,rfl,by decide +kernel,rfl,by decide +kernel,by decide +kernel⟩
section
local macro_rules | `(tactic| walk_at "cs")=>`(tactic| first | exact @FY _ _ IV IW (AA DK) LE (by decide +kernel) (by decide +kernel) rfl rfl)
local macro_rules | `(tactic| walk_at "x")=>`(tactic| first | ((with_reducible show PE _ (.Call (.Attribute _ (a0Q "join") _) ..) _);exact @kBm _ K _ _ _ _ _ _ _ _ _ _ _ rfl a1Q a6Z a6X (@UB _ K rfl) (by walk_at "e") (by walk_at "a") (by rfl) (by rfl) (by rfl) (by rfl) (by rfl)))
theorem TK {f:Addr}{fd:FuncData}(F:Fun K "show_world" "show_world" DK f fd) (n_len:mg "len"=none) (g_BETWEEN:∃t,mg "BETWEEN"=some (.str (", ") t)) (g_NO_THINGS:∃t,mg "NO_THINGS"=some (.str ("-") t)) (h_show_thing:Has P w K mg base "show_thing" 3 ["thing"] HW):FnOk P w K mg base CX0 4 f fd ["world"] (spD K 1 HY):=by
 refine fnD F LF fun cdv A outer s H E hr=>?_
 have hu:=hr.units
 have nd:=LF.nd
 have n0:=PP
 refine⟨_,by walk_at "b2", ?_⟩
 clear nd n0
 rintro xs M hl ⟨d,rfl,w,rfl,hw,hwl⟩
 rw[show wD w = .tuple (w.map thD) from rfl]
 walk_at "r"
 refine E7 ?_
 rw[zX]
 walk_at "r"
 refine AQ rfl rfl ?_
 rw[if_neg nft]
 by_cases hne:w=[]
 · subst hne
   rw[show a0W (.int (([]:List Th).length:Nat)) (.int 0)=true from rfl]
   walk_at "r"
   exact⟨M,zT M,fun d' e=>by cases e;exact⟨rfl,rfl⟩⟩
 · rw[show a0W (.int (w.length:Nat)) (.int 0)=false from decide_eq_false (fun h=>hne (List.length_eq_zero_iff.mp (Int.ofNat.inj h)))]
   walk_at "r"
   refine CO ?_
   walk_at "r"
   refine⟨BI,?_⟩
   walk_at "r"
   refine AE (B3 0) (by simp[IW]) ?_
   refine CI ?_
   walk_at "r"
   refine⟨by rw[zX];exact zQ hwl (by decide),fun _=>true,qA,?_,?_⟩
   · intro d hd M'
     obtain⟨t,ht,rfl⟩:=zL.mp hd
     walk_at "dl"
     refine⟨rfl,?_⟩
     walk_at "dl"
     refine⟨rfl,rfl,fun _=>?_⟩
     walk_at "r"
     refine AF ⟨t,rfl,hw.th t ht⟩ ?_
     exact⟨rfl,rfl⟩
   · rw[eB]
     walk_at "r"
     refine KI (zN (O0 hw hwl) (by decide)) ?_
     refine⟨M,zT M,fun d' e=>?_⟩
     cases e
     refine⟨congrArg DS.d ?_,rfl⟩
     rw[show a3J (w.map thD)=wD w from rfl,e8,RD hne]
end
def TL:List Str:=["text", "things", "number", "part", "thing"]
theorem LG:FnScope TL ["text"] (AA FF):=⟨rfl,rfl,rfl,by decide +kernel,rfl,by decide +kernel,by decide +kernel⟩
section
local macro_rules | `(tactic| walk_at "x")=>`(tactic| first | ((with_reducible show PI _ _ (.Call (.Name (a0Q "enumerate") _) ..) _);exact @sU _ K _ _ _ _ _ _ _ rfl rfl n_enumerate (by walk_at "a") (by rfl)) | ((with_reducible show PE _ (.Call (.Attribute _ (a0Q "split") _) ..) _);exact @kBm _ K _ _ _ _ _ _ _ _ _ _ _ rfl a1Q b0Z c1V (@bJ _ K rfl) (by walk_at "e") (by walk_at "a") (by rfl) (by rfl) (by rfl) (by rfl) (by rfl)) | ((with_reducible show PG _ (.Tuple ..) _);exact @MK _ K _ _ _ _ (2) rfl rfl (by walk_at "j") (by rfl) (by rfl)) | ((with_reducible show PT _ (.Compare _ [.Is] ..) _);exact @CG _ _ _ _ _ _ _ _ (@j9 _) (by walk_at "e") (by walk_at "e") (@BZ _ _ (by decide) (by decide))) | ((with_reducible show PT _ (.Compare _ [.LtE] ..) _);exact @CG _ _ _ _ _ _ _ _ (@vZ _) (by walk_at "e") (by walk_at "e") (@BZ _ _ (by decide) (by decide))))
theorem TM {f:Addr}{fd:FuncData}(F:Fun K "read_world" "read_world" FF f fd) (n_enumerate:mg "enumerate"=none) (n_isinstance:mg "isinstance"=none) (n_len:mg "len"=none) (n_str:mg "str"=none) (n_tuple:mg "tuple"=none) (g_BETWEEN:∃t,mg "BETWEEN"=some (.str (", ") t)) (g_NO_THINGS:∃t,mg "NO_THINGS"=some (.str ("-") t)) (h_read_thing:Has P w K mg base "read_thing" 5 ["text"] HX):FnOk P w K mg base CX0 6 f fd ["text"] (spD K 1 HZ):=by
 refine fnD F LG fun cdv A outer s H E hr=>?_
 have hu:=hr.units
 have nd:=LG.nd
 refine⟨_,by walk_at "b2", ?_⟩
 clear nd
 rintro xs M hl ⟨d,rfl,w,rfl,hw,hwl⟩
 walk_at "r"
 refine AQ (HV (lP hw)) (by decide +kernel) ?_
 rw[if_neg nft,RC]
 by_cases hne:w=[]
 · subst hne
   rw[show(wsS []==a0Q "-")=true by decide +kernel]
   walk_at "r"
   refine⟨M,zT M,fun d' e=>?_⟩
   cases e
   exact⟨congrArg DS.d (e9 (w:=[]) hw).symm,rfl⟩
 · obtain⟨hsp,hnd⟩:=YJ hw hne
   rw[show(wsS w==a0Q "-")=false from beq_eq_false_iff_ne.mpr hnd]
   walk_at "r"
   refine KH ?_
   walk_at "r"
   intro q hq
   refine NW (fun ρ1 M1=>M1=M.put q (.l (w.map thD))/\∃x y z,ρ1=[some (.d (.str (wsS w))),some (.loc q),x,y,z]) ?_ ?_
   · refine LP ?_
     refine dW ?_
     walk_at "r"
     refine CO ?_
     walk_at "dl"
     refine⟨BI,?_⟩
     walk_at "r"
     refine R7 (by rfl) (wJ hw hwl) ?_
     rw[hsp]
     walk_at "r"
     refine⟨fun k ρ1 M1=>M1=M.put q (.l ((w.take k).map thD))/\∃x y z,ρ1=[some (.d (.str (wsS w))),some (.loc q),x,y,z],⟨rfl,_,_,_,rfl⟩,?_,?_⟩
     · rintro k d ρ1 M1 hd ⟨rfl,x,y,z,rfl⟩
       obtain⟨t,ht,rfl⟩:=lQ hd
       have hk:k < w.length:=(yT.mp ht).1
       have gt:=hw.th t (yN ht)
       walk_at "r"
       refine AF ⟨t,rfl,gt⟩ ?_
       rw[bM gt]
       refine NW (fun ρ2 M2=>M2=M.put q (.l ((w.take k).map thD))/\ρ2=[some (.d (.str (wsS w))),some (.loc q),some (.d (.int (k:Nat))),some (.d (.str (thS t))),some (.d (thD t))]) ?_ ?_
       · walk_at "r"
         refine Q2 ?_
         rw[show CT (thD t)=false from rfl]
         walk_at "r"
         refine pJ zU ?_
         walk_at "r"
         cases k with
         | zero=>
           rw[if_neg (by simp)]
           walk_at "r"
           exact⟨rfl,rfl⟩
         | succ k=>
           obtain⟨u,hu⟩:∃u,w[k]?=some u:=⟨_,zV (by omega)⟩
           have hlen:0 < ((w.take (k+1)).map thD).length:=by rw[zX,a2Z];omega
           rw[if_pos (show decide ((0:Int) < (((w.take (k+1)).map thD).length:Int))=true from decide_eq_true (Int.ofNat_lt.mpr hlen))]
           walk_at "r"
           refine AB (d:=.str t.1) (AC (j:=0) rfl) ?_
           walk_at "r"
           refine dO zU (wK hu) ?_
           walk_at "r"
           refine AB (d:=.str u.1) (AC (j:=0) rfl) ?_
           refine wA ?_
           rw[lS hw ht hu]
           walk_at "r"
           exact⟨rfl,rfl⟩
       · rintro ρ2 M2 ⟨rfl,rfl⟩
         walk_at "r"
         refine CO ?_
         walk_at "dl"
         refine⟨MI zU,?_⟩
         walk_at "r"
         refine GU zU (zQ (show _<=25 by rw[zX,a2Z];omega) (by decide)) ?_
         rw[yI]
         refine⟨?_,_,_,_,rfl⟩
         rw[a4X,ht,xI]
         rfl
     · rintro ρ1 M1 ⟨rfl,x,y,z,rfl⟩
       rw[lR,a2K]
       exact⟨rfl,_,_,_,rfl⟩
   · rintro ρ1 M1 ⟨rfl,x,y,z,rfl⟩
     refine gK (i:=1) (a:=q) rfl zU ?_
     rw[yG hq]
     walk_at "r"
     refine KJ ?_
     refine⟨M,zT M,fun d' e=>?_⟩
     cases e
     exact⟨congrArg DS.d (e9 hw).symm,rfl⟩
end
def ND:List Str:=["deed"]
def K1:List Str:=["part"]
def K2:List (Option Nat):=[none]
theorem SS:K1.Nodup:=by decide +kernel
theorem NE:FnScope ND ["deed"] (AA EH):=⟨rfl,rfl,rfl,by decide +kernel,rfl,by decide +kernel,by decide +kernel⟩
section
local macro_rules | `(tactic| walk_at "cs")=>`(tactic| first | exact @FY _ _ K1 K2 (AA EH) ND (by decide +kernel) (by decide +kernel) rfl rfl)
local macro_rules | `(tactic| walk_at "x")=>`(tactic| first | ((with_reducible show PE _ (.Call (.Attribute _ (a0Q "join") _) ..) _);exact @kBm _ K _ _ _ _ _ _ _ _ _ _ _ rfl a1Q a6Z a6X (@UB _ K rfl) (by walk_at "e") (by walk_at "a") (by rfl) (by rfl) (by rfl) (by rfl) (by rfl)))
theorem X2 {f:Addr}{fd:FuncData}(F:Fun K "show_deed" "show_deed" EH f fd) (n_isinstance:mg "isinstance"=none) (n_str:mg "str"=none) (h_show_whole:Has P w K mg base "show_whole" 2 ["number"] F7):FnOk P w K mg base CX0 3 f fd ["deed"] (spD K 1 CY):=by
 refine fnD F NE fun cdv A outer s H E hr=>?_
 have hu:=hr.units
 have nd:=NE.nd
 have n0:=SS
 refine⟨_,by walk_at "b1", ?_⟩
 clear nd n0
 rintro xs M hl ⟨d,rfl,D,rfl,hr,hf⟩
 have hp:=JQ hr hf
 rw[show D.d = .tuple D.list from D.d_eq]
 walk_at "r"
 refine CO ?_
 walk_at "dl"
 refine⟨BI,?_⟩
 walk_at "r"
 refine AE (B3 0) (by simp[K2]) ?_
 refine CI ?_
 walk_at "r"
 refine⟨zQ (HE D) (by decide),fun _=>true,fun d=>.str (BU d),?_,?_⟩
 · intro d hd M'
   rcases hp d hd with ⟨s,rfl,h1,h2⟩ | ⟨n,rfl,hb⟩
   · walk_at "r"
     refine⟨rfl,?_⟩
     walk_at "dl"
     refine⟨rfl,rfl,fun _=>?_⟩
     walk_at "r"
     exact⟨rfl,rfl⟩
   · walk_at "r"
     refine⟨rfl,?_⟩
     walk_at "dl"
     refine⟨rfl,rfl,fun _=>?_⟩
     walk_at "r"
     refine AF ⟨n,rfl,hb⟩ ?_
     exact⟨rfl,rfl⟩
 rw[List.filter_eq_self.mpr (fun _ _=>rfl),show D.list.map (fun d=>a0X (BU d))=(D.list.map BU).map .str by rw[zD];rfl]
 walk_at "r"
 refine KI (V2 hr hf) ?_
 refine⟨M,zT M,fun d' e=>?_⟩
 cases e
 exact⟨rfl,rfl⟩
end
def NF:List Str:=["text", "word", "parts", "form", "deed"]
def K3:List Str:=["sign", "part"]
def K4:List (Option Nat):=[none,none]
theorem ST:K3.Nodup:=by decide +kernel
theorem FI:FnScope NF ["text"] (AA EI):=⟨rfl,rfl,rfl,by decide +kernel,rfl,by decide +kernel,by decide +kernel⟩
section
local macro_rules | `(tactic| walk_at "cs")=>`(tactic| first | exact @FY _ _ K3 K4 (AA EI) NF (by decide +kernel) (by decide +kernel) rfl rfl)
local macro_rules | `(tactic| walk_at "x")=>`(tactic| first | ((with_reducible show PS _ (.Assign [.Tuple ..] ..) _);exact @GM _ _ _ _ _ _ (by walk_at "e") (by walk_at "g") (by rfl) (by rfl) (by rfl)) | ((with_reducible show PE _ (.Call (.Attribute _ (a0Q "split") _) ..) _);exact @kBm _ K _ _ _ _ _ _ _ _ _ _ _ rfl a1Q b0Z c1V (@bJ _ K rfl) (by walk_at "e") (by walk_at "a") (by rfl) (by rfl) (by rfl) (by rfl) (by rfl)) | ((with_reducible show PG _ (.Tuple ..) _);exact @sX _ K _ _ _ _ _ rfl rfl (@CN _ _ _ _ _ (@CZ _ _ (1) _ FI.nd rfl (by walk_at "lc") (by walk_at "or")) (@CN _ _ _ _ _ (@CZ _ _ (2) _ FI.nd rfl (by walk_at "lc") (by walk_at "or")) (@MD _) (by rfl)) (by rfl)) rfl (by rfl) (by rfl)) | ((with_reducible show PI _ _ (.Call (.Name (a0Q "zip") _) ..) _);exact @x8 _ K _ _ _ _ _ _ _ _ rfl rfl n_zip (by walk_at "a") (by rfl) (by rfl)) | ((with_reducible show PG _ (.Tuple ..) _);exact @MK _ K _ _ _ _ (2) rfl rfl (by walk_at "j") (by rfl) (by rfl)))
theorem X3 {f:Addr}{fd:FuncData}(F:Fun K "read_deed" "read_deed" EI f fd) (n_isinstance:mg "isinstance"=none) (n_len:mg "len"=none) (n_str:mg "str"=none) (n_tuple:mg "tuple"=none) (n_zip:mg "zip"=none) (h_form_of:Has P w K mg base "form_of" 1 ["word"] HA) (h_is_deed:Has P w K mg base "is_deed" 5 ["thing"] FM) (h_read_whole:Has P w K mg base "read_whole" 2 ["text"] F8):FnOk P w K mg base CX0 6 f fd ["text"] (spD K 1 O8):=by
 refine fnD F FI fun cdv A outer s H E hr=>?_
 have hu:=hr.units
 have nd:=FI.nd
 have n0:=ST
 refine⟨_,by walk_at "b2", ?_⟩
 clear nd n0
 rintro xs M hl ⟨d,rfl,D,rfl,hr,hf⟩
 obtain⟨e1,e2,e3⟩:=S4 hr hf
 have hsp:=ZE hr hf
 have hk:=iT hr hf
 have hlen:=(N3 hr hf).2
 rw[a0K] at hlen
 obtain⟨ff,fs,_⟩:=LT e1
 walk_at "r"
 refine EW ?_
 refine CO ?_
 walk_at "dl"
 refine⟨BI,?_⟩
 walk_at "r"
 refine R7 (by decide +kernel) (zN (a5J hlen 2) (by decide)) ?_
 rw[hsp,show(D.list.map BU).map a0X = .str D.word::(D.list.map BU).tail.map a0X from rfl]
 generalize (D.list.map BU).tail=ps at *
 refine⟨_,rfl,?_⟩
 refine eY (J9 (J9 (VQ ?_)))
 walk_at "r"
 refine AF trivial ?_
 rw[show OP (.str D.word) = .str D.form by show aZ (F0.lookup D.word)=_;rw[e1];rfl]
 walk_at "r"
 refine Q2 ?_
 walk_at "r"
 refine VP ?_
 rw[zX]
 walk_at "r"
 refine MJ (zN (show D.form.length<=4 from fs) (by decide)) ?_
 walk_at "r"
 refine AQ rfl rfl ?_
 rw[if_pos rfl,show(!a0W (.int (ps.length:Int)) (.int (D.form.length:Int)))=false by simp only[a0W];rw[show D.form.length=D.form.cps.size from rfl,e2];simp]
 walk_at "r"
 refine AE (JA (B5 (B5 HP))) (by simp[K4]) ?_
 refine mZ ?_
 walk_at "r"
 refine⟨_,_,rfl,ff,by rw[zX];omega,?_,fun _=>true,A0v,?_,?_⟩
 · unfold F6
   rw[zX,b2Z,zX]
   exact zQ (show _<=5001 by omega) (by decide)
 · intro d hd' M'
   obtain⟨⟨s1,p1⟩,hm,rfl⟩:=zL.mp hd'
   have k110:((⟨#[110]⟩:Str)==a0Q "n")=true:=by decide +kernel
   rcases hk _ hm with ⟨rfl,q,rfl⟩ | ⟨rfl | rfl,n,hb,rfl⟩
   · walk_at "r"
     refine⟨rfl,?_⟩
     walk_at "dl"
     refine⟨rfl,rfl,fun _=>?_⟩
     walk_at "r"
     refine AQ (JY (by decide)) (by decide +kernel) ?_
     rw[if_neg nft,RC,k110]
     walk_at "r"
     exact⟨congrArg DS.d (V3 q).symm,rfl⟩
   · walk_at "r"
     refine⟨rfl,?_⟩
     walk_at "dl"
     refine⟨rfl,rfl,fun _=>?_⟩
     walk_at "r"
     refine AQ (JY (by decide)) (by decide +kernel) ?_
     rw[if_neg nft,RC,show((⟨#[112]⟩:Str)==a0Q "n")=false by decide +kernel]
     walk_at "r"
     refine AF ⟨n,rfl,hb⟩ ?_
     refine⟨congrArg DS.d ?_,rfl⟩
     show b7X (FT (AI n))=EX (.str ⟨#[112]⟩) (.str (AI n))
     rw[EC hb,fB hb]
   · walk_at "r"
     refine⟨rfl,?_⟩
     walk_at "dl"
     refine⟨rfl,rfl,fun _=>?_⟩
     walk_at "r"
     refine AQ (JY (by decide)) (by decide +kernel) ?_
     rw[if_neg nft,RC,show((⟨#[107]⟩:Str)==a0Q "n")=false by decide +kernel]
     walk_at "r"
     refine AF ⟨n,rfl,hb⟩ ?_
     refine⟨congrArg DS.d ?_,rfl⟩
     show b7X (FT (AI n))=EX (.str ⟨#[107]⟩) (.str (AI n))
     rw[EC hb,fC hb]
 rw[nO,e3]
 walk_at "r"
 refine KJ ?_
 have hdl:(a0X D.fst::D.rest).length<=4:=by have:=HE D;unfold Deed.list at this;simp at this ⊢;omega
 refine Y4 (show 1+(a0X D.fst::D.rest).length<=sizeLine from zN (a3Q hdl 1) (by decide)) ?_
 rw[show [a0X D.word]++(a0X D.fst::D.rest)=D.list from rfl,show a3J D.list=D.d from D.d_eq.symm]
 walk_at "r"
 refine AF (WE hr.1) ?_
 rw[Q6 hr]
 walk_at "r"
 refine⟨M,zT M,fun d' e=>?_⟩
 cases e
 exact⟨congrArg DS.d (show D.d=r9 (rdD (.str (dS D))) by rw[n4 hr hf];rfl),rfl⟩
end
def TN:List Str:=["row"]
theorem LH:FnScope TN ["row"] (AA FG):=⟨rfl,rfl,rfl,by decide +kernel,rfl,by decide +kernel,by decide +kernel⟩
section
local macro_rules | `(tactic| walk_at "x")=>`(tactic| first | ((with_reducible show PS _ (.Try ..) _);exact @fG _ _ _ _ _ _ (fun _ _ h=>h) (by walk_at "q")) | ((with_reducible show PE _ (.Call (.Attribute _ (a0Q "startswith") _) ..) _);exact @kBm _ K _ _ _ _ _ _ _ _ _ _ _ rfl a1Q b7J b7Z (@JE _ K rfl) (by walk_at "e") (by walk_at "a") (by rfl) (by rfl) (by rfl) (by rfl) (by rfl)))
theorem TQ {f:Addr}{fd:FuncData}(F:Fun K "read_start" "read_start" FG f fd) (n_len:mg "len"=none) (g_START:∃t,mg "START"=some (.str ("start ") t)) (h_read_world:Has P w K mg base "read_world" 6 ["text"] HZ):FnOk P w K mg base CX0 7 f fd ["row"] (spD K 1 LZ):=by
 refine fnD F LH fun cdv A outer s H E hr=>?_
 have hu:=hr.units
 have nd:=LH.nd
 refine⟨_,by walk_at "b1", ?_⟩
 clear nd
 rintro xs M hl ⟨d,rfl,w,rfl,hw,hwl⟩
 have hlen:=(OU hw hwl).2
 rw[a0K] at hlen
 walk_at "r"
 refine CO ?_
 walk_at "dl"
 refine⟨BI,?_⟩
 walk_at "r"
 refine NZ ?_
 rw[WT]
 walk_at "r"
 refine MJ (by decide +kernel) ?_
 rw[WR]
 walk_at "r"
 refine GV (zN hlen (by decide)) ?_
 rw[show((6:Nat):Int)=(6:Int) from rfl,OW]
 walk_at "r"
 refine AF ⟨w,rfl,hw,hwl⟩ ?_
 refine⟨M,zT M,fun d' e=>?_⟩
 cases e
 refine⟨congrArg DS.d ?_,rfl⟩
 rw[SB hw,e9 hw]
end
def X4:List Str:=["row", "hand", "between", "deed"]
theorem NG:FnScope X4 ["row"] (AA GG):=⟨rfl,rfl,rfl,by decide +kernel,rfl,by decide +kernel,by decide +kernel⟩
section
local macro_rules | `(tactic| walk_at "x")=>`(tactic| first | ((with_reducible show PS _ (.Assign [.Tuple ..] ..) _);exact @GM _ _ _ _ _ _ (by walk_at "e") (by walk_at "g") (by rfl) (by rfl) (by rfl)) | ((with_reducible show PE _ (.Call (.Attribute _ (a0Q "partition") _) ..) _);exact @kBm _ K _ _ _ _ _ _ _ _ _ _ _ rfl a1Q c0W PySem.F.type_str_partition (@R6 _ K rfl) (by walk_at "e") (by walk_at "a") (by rfl) (by rfl) (by rfl) (by rfl) (by rfl)) | ((with_reducible show PG _ (.Tuple ..) _);exact @UQ _ K _ _ _ _ (3) rfl rfl (by walk_at "j") (by rfl) (by rfl)) | ((with_reducible show PS _ (.Try ..) _);exact @fG _ _ _ _ _ _ (fun _ _ h=>h) (by walk_at "q")))
theorem X5 {f:Addr}{fd:FuncData}(F:Fun K "read_line" "read_line" GG f fd) (g_BEHIND_HAND:∃t,mg "BEHIND_HAND"=some (.str (": ") t)) (h_read_deed:Has P w K mg base "read_deed" 6 ["text"] O8):FnOk P w K mg base CX0 7 f fd ["row"] (spD K 1 O9):=by
 refine fnD F NG fun cdv A outer s H E hr=>?_
 have hu:=hr.units
 have nd:=NG.nd
 refine⟨_,by walk_at "b2", ?_⟩
 clear nd
 rintro xs M hl ⟨d,rfl,l,rfl,h1,h2,h3⟩
 have hlen:=(V8 h1 h2 h3).2
 rw[a0K] at hlen
 walk_at "r"
 refine EW ?_
 refine CO ?_
 walk_at "dl"
 refine⟨BI,?_⟩
 walk_at "r"
 refine R8 (by decide +kernel) (zN hlen (by decide)) ?_
 rw[fK h1]
 walk_at "r"
 refine AF ⟨l.2,rfl,h2,h3⟩ ?_
 rw[n4 h2 h3]
 walk_at "r"
 refine⟨M,zT M,fun d' e=>?_⟩
 cases e
 exact⟨congrArg DS.d (fM h1 h2 h3).symm,rfl⟩
end
def NH:List Str:=["book", "start", "lines"]
def K5:List Str:=["hand", "deed"]
def K6:List (Option Nat):=[none,none]
theorem SU:K5.Nodup:=by decide +kernel
theorem NI:FnScope NH ["book"] (AA EJ):=⟨rfl,rfl,rfl,by decide +kernel,rfl,by decide +kernel,by decide +kernel⟩
section
local macro_rules | `(tactic| walk_at "cs")=>`(tactic| first | exact @FY _ _ K5 K6 (AA EJ) NH (by decide +kernel) (by decide +kernel) rfl rfl)
local macro_rules | `(tactic| walk_at "x")=>`(tactic| first | ((with_reducible show PS _ (.Assign [.Tuple ..] ..) _);exact @GM _ _ _ _ _ _ (by walk_at "e") (by walk_at "g") (by rfl) (by rfl) (by rfl)) | ((with_reducible show PG _ (.Tuple ..) _);exact @UQ _ K _ _ _ _ (2) rfl rfl (by walk_at "j") (by rfl) (by rfl)) | ((with_reducible show PE _ (.Call (.Attribute _ (a0Q "join") _) ..) _);exact @kBm _ K _ _ _ _ _ _ _ _ _ _ _ rfl a1Q a6Z a6X (@UB _ K rfl) (by walk_at "e") (by walk_at "a") (by rfl) (by rfl) (by rfl) (by rfl) (by rfl)) | ((with_reducible show PG _ (.Tuple ..) _);exact @MK _ K _ _ _ _ (2) rfl rfl (by walk_at "j") (by rfl) (by rfl)))
theorem X6 {f:Addr}{fd:FuncData}(F:Fun K "show_book" "show_book" EJ f fd) (g_BEHIND_HAND:∃t,mg "BEHIND_HAND"=some (.str (": ") t)) (g_START:∃t,mg "START"=some (.str ("start ") t)) (h_show_deed:Has P w K mg base "show_deed" 3 ["deed"] CY) (h_show_world:Has P w K mg base "show_world" 4 ["world"] HY):FnOk P w K mg base CX0 5 f fd ["book"] (spD K 1 DD):=by
 refine fnD F NI fun cdv A outer s H E hr=>?_
 have hu:=hr.units
 have nd:=NI.nd
 have n0:=SU
 refine⟨_,by walk_at "b2", ?_⟩
 clear nd n0
 rintro xs M hl ⟨w,ls,rfl,h⟩
 have ht:=h.t
 have hlw:=(SA ht.good ht.few).2
 rw[a0K] at hlw
 have hln:=ht.len
 walk_at "r"
 rw[show AV w ls = .tuple [wD w,BL ls] from rfl]
 walk_at "r"
 refine EW ?_
 walk_at "r"
 refine CO ?_
 walk_at "dl"
 refine⟨BI,?_⟩
 walk_at "r"
 refine CA ?_
 walk_at "r"
 refine AF ⟨w,rfl,ht.good,ht.few⟩ ?_
 rw[e8]
 refine BC (zN (a7V (b5X WR) hlw) (by decide)) ?_
 walk_at "r"
 refine AE (rM (B5 (B5 HP))) (by simp[K6]) ?_
 refine CI ?_
 walk_at "r"
 refine⟨by rw[zX];exact zQ hln (by decide),fun _=>true,lnF,?_,?_⟩
 · intro d hd M'
   obtain⟨l,hl,rfl⟩:=zL.mp hd
   obtain⟨a1,a2,a3⟩:=ht.line l hl
   have l1:l.1.length<=8:=a1.2.1
   have l2:=(N3 a2 a3).2
   rw[a0K] at l2
   have l3:(a0Q ": ").length=2:=by decide +kernel
   have l4:(l.1++a0Q ": ").length<=10:=by rw[CU,l3];omega
   rw[show BS l = .tuple [.str l.1,l.2.d] from rfl]
   walk_at "r"
   refine⟨rfl,?_⟩
   walk_at "dl"
   refine⟨rfl,rfl,fun _=>?_⟩
   walk_at "r"
   refine BC (zN (show _<=20 by rw[l3];omega) (by decide)) ?_
   walk_at "r"
   refine AF ⟨l.2,rfl,a2,a3⟩ ?_
   rw[WH]
   refine BC (zN (a7V l4 l2) (by decide)) ?_
   exact⟨congrArg DS.d (SE l).symm,rfl⟩
 rw[fQ]
 walk_at "r"
 refine JB (by rw[zX,zX];exact zN (show 1+ls.length<=50 by omega) (by decide)) ?_
 rw[show [a0X (a0Q "start " ++ wsS w)]++(ls.map lnS).map a0X=(DX w ls).map .str from rfl]
 walk_at "r"
 refine KI (fJ ht) ?_
 exact SD h (zT M)
end
def NJ:List Str:=["text", "first", "rows", "refusal"]
def K7:List Str:=["row"]
def K8:List (Option Nat):=[none]
theorem SV:K7.Nodup:=by decide +kernel
theorem FJ:FnScope NJ ["text"] (AA EK):=⟨rfl,rfl,rfl,by decide +kernel,rfl,by decide +kernel,by decide +kernel⟩
section
local macro_rules | `(tactic| walk_at "cs")=>`(tactic| first | exact @FY _ _ K7 K8 (AA EK) NJ (by decide +kernel) (by decide +kernel) rfl rfl)
local macro_rules | `(tactic| walk_at "x")=>`(tactic| first | ((with_reducible show PS _ (.Assign [.Tuple ..] ..) _);exact @GM _ _ _ _ _ _ (by walk_at "e") (by walk_at "g") (by rfl) (by rfl) (by rfl)) | ((with_reducible show PE _ (.Call (.Attribute _ (a0Q "split") _) ..) _);exact @kBm _ K _ _ _ _ _ _ _ _ _ _ _ rfl a1Q b0Z c1V (@bJ _ K rfl) (by walk_at "e") (by walk_at "a") (by rfl) (by rfl) (by rfl) (by rfl) (by rfl)) | ((with_reducible show PG _ (.Tuple ..) _);exact @sX _ K _ _ _ _ _ rfl rfl (@CN _ _ _ _ _ (@CZ _ _ (1) _ FJ.nd rfl (by walk_at "lc") (by walk_at "or")) (@CN _ _ _ _ _ (@CZ _ _ (2) _ FJ.nd rfl (by walk_at "lc") (by walk_at "or")) (@MD _) (by rfl)) (by rfl)) rfl (by rfl) (by rfl)) | ((with_reducible show PS _ (.Try ..) _);exact @fG _ _ _ _ _ _ (fun _ _ h=>h) (by walk_at "q")))
theorem X7 {f:Addr}{fd:FuncData}(F:Fun K "read_book" "read_book" EK f fd) (n_isinstance:mg "isinstance"=none) (n_str:mg "str"=none) (n_tuple:mg "tuple"=none) (h_checked_book:Has P w K mg base "checked_book" 9 ["thing"] HH) (h_read_line:Has P w K mg base "read_line" 7 ["row"] O9) (h_read_start:Has P w K mg base "read_start" 7 ["row"] LZ):FnOk P w K mg base CX0 10 f fd ["text"] (spD K 1 OB):=by
 refine fnD F FJ fun cdv A outer s H E hr=>?_
 have hu:=hr.units
 have nd:=FJ.nd
 have n0:=SV
 refine⟨_,by walk_at "b2", ?_⟩
 clear nd n0
 rintro xs M hl ⟨d,rfl,w,ls,rfl,h⟩
 have ht:=h.t
 have hlen:=(ZP ht).2
 rw[a0K] at hlen
 have hln:=ht.len
 walk_at "r"
 refine EW ?_
 refine CO ?_
 walk_at "dl"
 refine⟨BI,?_⟩
 walk_at "r"
 refine R7 (by decide +kernel) (zN (a5J hlen 2) (by decide)) ?_
 rw[ZO ht,show(DX w ls).map a0X = .str (a0Q "start " ++ wsS w)::(ls.map lnS).map a0X from rfl]
 refine⟨_,rfl,?_⟩
 refine eY (J9 (J9 (VQ ?_)))
 walk_at "r"
 refine AF ⟨w,rfl,ht.good,ht.few⟩ ?_
 rw[SB ht.good]
 walk_at "r"
 refine AE (B3 0) (by simp[K8]) ?_
 refine CC ?_
 walk_at "r"
 refine⟨by rw[zX,zX];exact zQ hln (by decide),fun _=>true,rlF,?_,?_⟩
 · intro d hd M'
   obtain⟨s,hs,rfl⟩:=zL.mp hd
   obtain⟨l,hl,rfl⟩:=zL.mp hs
   obtain⟨a1,a2,a3⟩:=ht.line l hl
   walk_at "dl"
   refine⟨rfl,?_⟩
   walk_at "dl"
   refine⟨rfl,rfl,fun _=>?_⟩
   walk_at "r"
   refine AF ⟨l,rfl,a1,a2,a3⟩ ?_
   exact⟨rfl,rfl⟩
 rw[c6,nN ht]
 walk_at "r"
 refine KJ ?_
 walk_at "r"
 refine WQ h.cb ?_
 refine⟨M,zT M,fun d' e=>?_⟩
 cases e
 exact⟨congrArg DS.d (fN ht).symm,rfl⟩
end
def GQ:List Str:=["_law_pack", "_law_amount", "_law_letters", "_law_turn", "_law_pick", "_law_size"]
def IX:List Str:=["_law_k", "_law_letters"]
def IY:List (Option Nat):=[none,some 2]
theorem PQ:IX.Nodup:=by decide +kernel
def IZ:List Str:=["_law_k", "_law_letters", "_law_size"]
def EY:List (Option Nat):=[none,some 2,some 5]
theorem PR:IZ.Nodup:=by decide +kernel
theorem LI:FnScope GQ ["_law_pack", "_law_amount"] (AA CJ):=⟨rfl,rfl,rfl,by decide +kernel,rfl,by decide +kernel,by decide +kernel⟩
section
local macro_rules | `(tactic| walk_at "cs")=>`(tactic| first | exact @FY _ _ IX IY (AA CJ) GQ (by decide +kernel) (by decide +kernel) rfl rfl | exact @FY _ _ IZ EY (AA CJ) GQ (by decide +kernel) (by decide +kernel) rfl rfl)
local macro_rules | `(tactic| walk_at "x")=>`(tactic| first | ((with_reducible show PE _ (.BinOp _ .Mult ..) _);exact @OF _ _ _ _ _ _ _ _ (@A0X _ K rfl) (by walk_at "e") (by walk_at "e")))
theorem TR {f:Addr}{fd:FuncData}(F:Fun K "_law_names" "_law_names" CJ f fd) (n_range:mg "range"=none) (h__law_take:Has P w K mg base "_law_take" 1 ["_law_pack", "_law_size"] BN):FnOk P w K mg base CX0 2 f fd ["_law_pack", "_law_amount"] (spD K 2 D7):=by
 refine fnD F LI fun cdv A outer s H E hr=>?_
 have hu:=hr.units
 have nd:=LI.nd
 have n0:=PQ
 have n1:=PR
 refine⟨_,by walk_at "b2", ?_⟩
 clear nd n0 n1
 rintro xs M hl ⟨p,n,o,rfl,m,ho,hn0,hn1⟩
 obtain⟨N,rfl⟩:∃N:Nat,n=(N:Int):=⟨n.toNat,by omega⟩
 have hlz:((a0Q "abcdefghijklmnopqrstuvwxyz"):Str).length<=sizeLine:=by rw[JD];decide
 walk_at "r"
 refine BB m ho (by decide) (by decide) fun v1 o1 hv0 hv1 ho1=>?_
 obtain⟨t,rfl⟩:∃t:Nat,v1=(t:Int):=⟨v1.toNat,by omega⟩
 walk_at "r"
 refine GV hlz ?_
 walk_at "r"
 refine GV hlz ?_
 refine BC (zN (a7V (UE _ _ _ (b5X JD)) (UE _ _ _ (b5X JD))) (by decide)) ?_
 have hRl:bC (a1X (a0Q "abcdefghijklmnopqrstuvwxyz") (some (t:Int)) none++a1X (a0Q "abcdefghijklmnopqrstuvwxyz") none (some (t:Int))):=by
   refine R0 (fun c hc=>?_) (fun c hc=>?_)
   · rw[E1] at hc;exact QU c (List.mem_of_mem_drop hc)
   · exact QU c (gT hc)
 have hRn:(a1X (a0Q "abcdefghijklmnopqrstuvwxyz") (some (t:Int)) none++a1X (a0Q "abcdefghijklmnopqrstuvwxyz") none (some (t:Int))).cps.toList.length=26:=by
   rw[AT,yY,E1,HR,a6K,a2Z,← NX,kW];exact vX (xR (Int.ofNat_lt.mp hv1))
 have hRd:(a1X (a0Q "abcdefghijklmnopqrstuvwxyz") (some (t:Int)) none++a1X (a0Q "abcdefghijklmnopqrstuvwxyz") none (some (t:Int))).cps.toList.Nodup:=by
   rw[AT,E1,HR];exact i6 t
 have hRrun:Run (a1X (a0Q "abcdefghijklmnopqrstuvwxyz") (some (t:Int)) none++a1X (a0Q "abcdefghijklmnopqrstuvwxyz") none (some (t:Int))).cps.toList:=by
   rw[AT,E1,HR];exact wV (mH t (by omega))
 revert hRl hRn hRd hRrun
 generalize a1X (a0Q "abcdefghijklmnopqrstuvwxyz") (some (t:Int)) none++a1X (a0Q "abcdefghijklmnopqrstuvwxyz") none (some (t:Int))=R
 intro hRl hRn hRd hRrun
 have hRz:R.length<=sizeLine:=by
   have:R.length=R.cps.toList.length:=by simp[Str.length]
   rw[this,hRn];decide
 have hRat:∀k:Nat,k < 26->∃c,atI R.cps.toList (k:Int)=some c/\CW c=true:=fun k hk=>by
   have hk':k < R.cps.toList.length:=by rw[hRn];exact hk
   exact⟨R.cps.toList[k],AC (zV hk'),hRl _ (b7Q hk')⟩
 walk_at "r"
 refine BB zU ho1 (by decide) (by decide) fun v2 o2 _ _ ho2=>?_
 rw[yI]
 walk_at "r"
 refine BB zU ho2 (by decide) (by decide) fun v3 o3 h30 h31 ho3=>?_
 rw[yI]
 obtain⟨s3,rfl⟩:∃s3:Nat,v3=(s3:Int):=⟨v3.toNat,by omega⟩
 have hmid:bC (a1X R (some 3) (some (3+(s3:Int))))/\(a1X R (some 3) (some (3+(s3:Int)))).cps.toList.length<=7/\Run (a1X R (some 3) (some (3+(s3:Int)))).cps.toList:=by
   have e:(a1X R (some 3) (some (3+(s3:Int)))).cps.toList=(R.cps.toList.take (3+s3)).drop 3:=gX R 3 (3+s3)
   refine⟨fun c hc=>?_,?_,?_⟩
   · rw[e] at hc;exact hRl c (a7J (List.mem_of_mem_drop hc))
   · rw[e,a6K,a2Z];exact vY (Nat.le_of_lt_succ (Int.ofNat_lt.mp h31))
   · rw[e];exact(hRrun.take _).drop _
 have hids:(G9 0 N).length=N:=by simp[G9]
 have hN:N<=26:=Int.ofNat_le.mp hn1
 have hsz:(G9 0 N).length < sizeLine:=by rw[hids];exact zQ hN (by decide)
 have fin:∀(g:PyData->PyData),(∀k:Nat,k < N->∃z,g (.int k) = .str z/\AG z/\z∉PL)->(∀i j:Nat,i < N->j < N->g (.int i)=g (.int j)->i=j)->∃ys:List Str,((G9 0 N).filter fun _=>true).map g=ys.map .str/\ys.length=N/\(∀z∈ys,AG z/\z∉PL)/\ys.Nodup:=fun g hg hi=>by
   rw[flt]
   refine⟨(a3Z N).map fun(k:Nat)=>OI (g (.int (k:Int))),?_,by simp,?_,?_⟩
   · unfold G9
     rw[zD,zD]
     apply yM
     intro k hk
     obtain⟨z,e,_⟩:=hg k (List.mem_range.mp hk)
     show g (.int (0+(k:Int))) = .str (OI (g (.int k)))
     rw[Int.zero_add,e];rfl
   · intro z hz
     obtain⟨k,hk,rfl⟩:=zL.mp hz
     obtain⟨z,e,h⟩:=hg k (List.mem_range.mp hk)
     rw[e];exact h
   · refine nodup_range fun i j h1 h2 e=>hi i j h1 h2 ?_
     obtain⟨z1,e1,_⟩:=hg i h1
     obtain⟨z2,e2,_⟩:=hg j h2
     rw[e1,e2] at e ⊢
     exact congrArg a0X e
 walk_at "r"
 refine AQ rfl rfl ?_
 rw[if_neg nft]
 walk_at "r"
 refine jQ (fun h=>?_) (fun h=>?_)
 · walk_at "r"
   refine AE (B3 0) (by simp[IY]) ?_
   refine Q0 ?_
   walk_at "r"
   refine⟨by omega,by omega,?_⟩
   rw[b3J]
   have hel:∀k:Nat,k < N->∃c,atI R.cps.toList ((k:Int)/8)=some c/\CW c=true:=fun k hk=>hRat (k/8) (bB hk hN)
   refine⟨hsz,fun _=>true,nmA R,?_,?_⟩
   · intro d hd M'
     obtain⟨k,hk,rfl⟩:=zL.mp hd
     obtain⟨c,e1,e2⟩:=hel k (List.mem_range.mp hk)
     rw[Int.zero_add]
     walk_at "dl"
     refine⟨rfl,?_⟩
     walk_at "dl"
     refine⟨rfl,rfl,fun _=>?_⟩
     walk_at "r"
     refine Q1 hRz e1 ?_
     walk_at "r"
     refine vW (LR _).1 (LR _).2.1 (by show 1<=1000;decide) ?_
     exact⟨by rw[W7 e1],rfl⟩
   · have iA:∀i j:Nat,i < N->j < N->(nmA R) (.int i)=(nmA R) (.int j)->i=j:=fun i j h1 h2 e=>by
       obtain⟨c1,q1,_⟩:=hel i h1
       obtain⟨c2,q2,_⟩:=hel j h2
       rw[W7 q1,W7 q2] at e
       have e':PK ⟨#[c1]⟩ (1+(i:Int) % 8)=PK ⟨#[c2]⟩ (1+(j:Int) % 8):=by injection e
       obtain⟨hcc,hmn⟩:=qN (LR _).1 (LR _).1 e'
       subst hcc
       have hq:=RQ (i:=i/8) (j:=j/8) hRd q1 q2 (by rw[hRn];exact bB h1 hN) (by rw[hRn];exact bB h2 hN)
       exact A0Y hmn hq
     have hA:∀k:Nat,k < N->∃z,(nmA R) (.int k) = .str z/\AG z/\z∉PL:=fun k hk=>by
       obtain⟨c,q1,q2⟩:=hel k hk
       have hz:=VZ (c:=c) (n:=1+(k:Int) % 8) (LR k).1
       refine⟨PK ⟨#[c]⟩ (1+(k:Int) % 8),W7 q1,?_,qK hz⟩
       refine QZ (fun d hd=>?_) ?_ ?_
       · rw[hz] at hd;rw[c1J hd];exact q2
       · rw[hz,b2J];exact(LR k).2.2.1
       · rw[hz,b2J];exact(LR k).2.2.2
     obtain⟨ys,e1,e2,e3,e4⟩:=fin (nmA R) hA iA
     rw[e1]
     refine⟨_,zT _,fun p' n' e=>?_⟩
     cases e
     exact⟨ys,o3,rfl,by rw[e2],fun z hz=>(e3 z hz).1,fun z hz=>(e3 z hz).2,e4,ho3,rfl⟩
 · walk_at "r"
   refine AQ rfl rfl ?_
   rw[if_neg nft]
   walk_at "r"
   have hel:∀k:Nat,k < N->∃c,atI R.cps.toList (k:Int)=some c/\CW c=true:=fun k hk=>hRat k (zP hk hN)
   have hszs:∀c:Nat,(⟨#[c]⟩:Str).length+(a1X R (some 3) (some (3+(s3:Int)))).length<=sizeLine:=fun c=>by
     have:(a1X R (some 3) (some (3+(s3:Int)))).length=(a1X R (some 3) (some (3+(s3:Int)))).cps.toList.length:=by simp[Str.length]
     rw[this]
     exact zN (a7V (zR 1) hmid.2.1) (by decide)
   refine jQ (fun h2=>?_) (fun h2=>?_)
   · walk_at "r"
     refine AE (B3 0) (by simp[EY]) ?_
     refine Q0 ?_
     walk_at "r"
     refine⟨by omega,by omega,?_⟩
     rw[b3J]
     refine⟨hsz,fun _=>true,nmB R (a1X R (some 3) (some (3+(s3:Int)))),?_,?_⟩
     · intro d hd M'
       obtain⟨k,hk,rfl⟩:=zL.mp hd
       obtain⟨c,e1,e2⟩:=hel k (List.mem_range.mp hk)
       rw[Int.zero_add]
       walk_at "dl"
       refine⟨rfl,?_⟩
       walk_at "dl"
       refine⟨rfl,rfl,fun _=>?_⟩
       walk_at "r"
       refine Q1 hRz e1 ?_
       walk_at "r"
       refine GV hRz ?_
       refine BC (hszs c) ?_
       exact⟨by rw[W8 e1],rfl⟩
     · have iB:∀i j:Nat,i < N->j < N->(nmB R (a1X R (some 3) (some (3+(s3:Int))))) (.int i)=(nmB R (a1X R (some 3) (some (3+(s3:Int))))) (.int j)->i=j:=fun i j h1 h2 e=>by
         obtain⟨c1,q1,_⟩:=hel i h1
         obtain⟨c2,q2,_⟩:=hel j h2
         rw[W8 q1,W8 q2] at e
         have e':(⟨#[c1]⟩:Str)++a1X R (some 3) (some (3+(s3:Int)))=⟨#[c2]⟩++a1X R (some 3) (some (3+(s3:Int))):=by injection e
         have hc:=mI e'
         subst hc
         exact RQ hRd q1 q2 (by rw[hRn];exact zP h1 hN) (by rw[hRn];exact zP h2 hN)
       have hB:∀k:Nat,k < N->∃z,(nmB R (a1X R (some 3) (some (3+(s3:Int))))) (.int k) = .str z/\AG z/\z∉PL:=fun k hk=>by
         obtain⟨c,q1,q2⟩:=hel k hk
         refine⟨_,W8 q1,?_,qL (c:=c) (by rw[AT];rfl) hmid.2.2⟩
         refine QZ (R0 (YE q2) hmid.1) ?_ ?_
         · rw[AT,yY];exact a2Q 1 _
         · rw[AT,yY];exact a3Q hmid.2.1 1
       obtain⟨ys,e1,e2,e3,e4⟩:=fin (nmB R (a1X R (some 3) (some (3+(s3:Int))))) hB iB
       rw[e1]
       refine⟨_,zT _,fun p' n' e=>?_⟩
       cases e
       exact⟨ys,o3,rfl,by rw[e2],fun z hz=>(e3 z hz).1,fun z hz=>(e3 z hz).2,e4,ho3,rfl⟩
   · walk_at "r"
     refine AE (B3 0) (by simp[EY]) ?_
     refine Q0 ?_
     walk_at "r"
     refine⟨by omega,by omega,?_⟩
     rw[b3J]
     refine⟨hsz,fun _=>true,nmC R (a1X R (some 3) (some (3+(s3:Int)))),?_,?_⟩
     · intro d hd M'
       obtain⟨k,hk,rfl⟩:=zL.mp hd
       obtain⟨c,e1,e2⟩:=hel k (List.mem_range.mp hk)
       rw[Int.zero_add]
       walk_at "dl"
       refine⟨rfl,?_⟩
       walk_at "dl"
       refine⟨rfl,rfl,fun _=>?_⟩
       walk_at "r"
       refine GV hRz ?_
       walk_at "r"
       refine Q1 hRz e1 ?_
       refine BC (by rw[Nat.add_comm];exact hszs c) ?_
       exact⟨by rw[W9 e1],rfl⟩
     · have iC:∀i j:Nat,i < N->j < N->(nmC R (a1X R (some 3) (some (3+(s3:Int))))) (.int i)=(nmC R (a1X R (some 3) (some (3+(s3:Int))))) (.int j)->i=j:=fun i j h1 h2 e=>by
         obtain⟨c1,q1,_⟩:=hel i h1
         obtain⟨c2,q2,_⟩:=hel j h2
         rw[W9 q1,W9 q2] at e
         have e':a1X R (some 3) (some (3+(s3:Int)))++(⟨#[c1]⟩:Str)=a1X R (some 3) (some (3+(s3:Int)))++⟨#[c2]⟩:=by injection e
         have hc:=mJ e'
         subst hc
         exact RQ hRd q1 q2 (by rw[hRn];exact zP h1 hN) (by rw[hRn];exact zP h2 hN)
       have hC:∀k:Nat,k < N->∃z,(nmC R (a1X R (some 3) (some (3+(s3:Int))))) (.int k) = .str z/\AG z/\z∉PL:=fun k hk=>by
         obtain⟨c,q1,q2⟩:=hel k hk
         refine⟨_,W9 q1,?_,qM (c:=c) (by rw[AT]) hmid.2.2⟩
         refine QZ (R0 hmid.1 (YE q2)) ?_ ?_
         · rw[AT,yY];exact Nat.le_add_left 1 _
         · rw[AT,yY];exact a5J hmid.2.1 1
       obtain⟨ys,e1,e2,e3,e4⟩:=fin (nmC R (a1X R (some 3) (some (3+(s3:Int))))) hC iC
       rw[e1]
       refine⟨_,zT _,fun p' n' e=>?_⟩
       cases e
       exact⟨ys,o3,rfl,by rw[e2],fun z hz=>(e3 z hz).1,fun z hz=>(e3 z hz).2,e4,ho3,rfl⟩
end
def TU:List Str:=["_law_cell"]
theorem LJ:FnScope TU ["_law_cell"] (AA FH):=⟨rfl,rfl,rfl,by decide +kernel,rfl,by decide +kernel,by decide +kernel⟩
section
local macro_rules | `(tactic| walk_at "x")=>`(tactic| first | ((with_reducible show PE _ (.BinOp _ .Mult ..) _);exact @OF _ _ _ _ _ _ _ _ (@A0X _ K rfl) (by walk_at "e") (by walk_at "e")))
theorem TV {f:Addr}{fd:FuncData}(F:Fun K "_law_mixed" "_law_mixed" FH f fd):FnOk P w K mg base CX0 1 f fd ["_law_cell"] (spD K 1 D6):=by
 refine fnD F LJ fun cdv A outer s H E hr=>?_
 have hu:=hr.units
 have nd:=LJ.nd
 refine⟨_,by walk_at "b1", ?_⟩
 clear nd
 rintro xs M hl ⟨c,rfl,hc⟩
 walk_at "r"
 refine l5 (qX hc) ?_
 walk_at "r"
 exact⟨M,zT M,rfl,_,rfl⟩
end
def X8:List Str:=["_law_pack", "_law_size", "_law_digit"]
theorem NK:FnScope X8 ["_law_pack", "_law_size"] (AA GH):=⟨rfl,rfl,rfl,by decide +kernel,rfl,by decide +kernel,by decide +kernel⟩
section
local macro_rules | `(tactic| walk_at "x")=>`(tactic| first | ((with_reducible show PS _ (.Assign [.Tuple ..] ..) _);exact @GM _ _ _ _ _ _ (by walk_at "e") (by walk_at "g") (by rfl) (by rfl) (by rfl)) | ((with_reducible show PG _ (.Tuple ..) _);exact @UQ _ K _ _ _ _ (2) rfl rfl (by walk_at "j") (by rfl) (by rfl)) | ((with_reducible show PG _ (.Subscript ..) _);exact @tP _ _ _ _ _ _ _ (by walk_at "e") (by walk_at "e") (@jI _) (by intro _;rfl)))
theorem X9 {f:Addr}{fd:FuncData}(F:Fun K "_law_take" "_law_take" GH f fd) (n_divmod:mg "divmod"=none):FnOk P w K mg base CX0 1 f fd ["_law_pack", "_law_size"] (spD K 2 BN):=by
 refine fnD F NK fun cdv A outer s H E hr=>?_
 have hu:=hr.units
 have nd:=NK.nd
 refine⟨_,by walk_at "b2", ?_⟩
 clear nd
 rintro xs M hl ⟨p,size,o,rfl,m,⟨v,rfl⟩,h0,h1⟩
 walk_at "dl"
 refine EW ?_
 walk_at "r"
 refine gW h0 h1 ?_
 walk_at "r"
 refine⟨_,zT _,fun p' size' e=>?_⟩
 cases e
 exact⟨_,_,rfl,Int.emod_nonneg _ (by omega),Int.emod_lt_of_pos _ h0,⟨_,rfl⟩,rfl⟩
end
def NL:List Str:=["_law_pack", "_law_some", "_law_spare", "_law_kind", "_law_place", "_law_number", "_law_one", "_law_others"]
def K9:List Str:=["_law_name", "_law_one"]
def KA:List (Option Nat):=[none,some 6]
theorem SW:K9.Nodup:=by decide +kernel
theorem NM:FnScope NL ["_law_pack", "_law_some", "_law_spare"] (AA EL):=⟨rfl,rfl,rfl,by decide +kernel,rfl,by decide +kernel,by decide +kernel⟩
section
local macro_rules | `(tactic| walk_at "cs")=>`(tactic| first | exact @FY _ _ K9 KA (AA EL) NL (by decide +kernel) (by decide +kernel) rfl rfl)
local macro_rules | `(tactic| walk_at "x")=>`(tactic| first | ((with_reducible show PT _ (.Compare _ [.In] ..) _);exact @CG _ _ _ _ _ _ _ _ (@kIn _ K rfl) (by walk_at "e") (by walk_at "e") (by with_unfolding_all rfl)))
theorem XA {f:Addr}{fd:FuncData}(F:Fun K "_law_deed" "_law_deed" EL f fd) (n_int:mg "int"=none) (n_len:mg "len"=none) (h__law_take:Has P w K mg base "_law_take" 1 ["_law_pack", "_law_size"] BN):FnOk P w K mg base CX0 2 f fd ["_law_pack", "_law_some", "_law_spare"] (spD K 3 JV):=by
 refine fnD F NM fun cdv A outer s H E hr=>?_
 have hu:=hr.units
 have nd:=NM.nd
 have n0:=SW
 refine⟨_,by walk_at "b2", ?_⟩
 clear nd n0
 rintro xs M hl ⟨p,o,so,sp,rfl,m,ho,hno,hne0⟩
 have nd2:∀{z:Str},z∈so->z∉sp:=fun {z} h1 h2=>(List.nodup_append.mp hno.2.1).2.2 z h1 z h2 rfl
 walk_at "r"
 refine CA ?_
 walk_at "r"
 refine BB m ho (by decide) (by decide) fun v1 o1 a0 a1 ho1=>?_
 obtain⟨kd,ekd,hkd⟩:=Q5 (ys:=IE) a0 a1
 refine E6 (d:=.str kd) ekd ?_
 walk_at "r"
 refine BB zU ho1 (by decide) (by decide) fun pl o2 p0 p1 ho2=>?_
 rw[yI]
 walk_at "r"
 refine BB zU ho2 (by decide) (by decide) fun v3 o3 c0 c1 ho3=>?_
 rw[yI]
 walk_at "wks"
 refine NW (fun ρ1 M1=>∃(kd:Str),kd∈IE/\(kd=a0Q "put" ∨ kd=a0Q "name" ∨ kd=a0Q "split" -> sp≠[])/\(kd≠a0Q "put" -> so≠[])/\M1=M.put p o3/\ρ1=[some (.loc p),some (.d (B2 so)),some (.d (B2 sp)),some (.d (.str kd)),some (.d (.int pl)),some (.d (.int (v3 - 20))),none,none]) ?_ ?_
 · have hs1:zH (B2 so)=true:=DC fun z hz=>hno.1 z (by simp[hz])
   have hs2:zH (B2 sp)=true:=DC fun z hz=>hno.1 z (by simp[hz])
   have fin:∀b:Bool,sp.isEmpty=b->∃k2:Str,atI [a0X (a0Q "put"),.str (a0Q "move")] (if b then 1 else 0)=some (.str k2)/\k2∈IE/\((b=false/\k2=a0Q "put")∨(b=true/\k2=a0Q "move")):=fun b _=>by
     cases b with
     | true=>exact⟨"move", rfl,by simp[IE],.inr ⟨rfl,rfl⟩⟩
     | false=>exact⟨"put", rfl,by simp[IE],.inl ⟨rfl,rfl⟩⟩
   walk_at "wkd"
   refine AQ hs1 rfl ?_
   rw[if_neg nft,CF]
   cases hso:so.isEmpty with
   | true=>
     have so0:so=[]:=List.isEmpty_iff.mp hso
     have sp0:sp≠[]:=hne0.resolve_left fun q=>q so0
     have spe:sp.isEmpty=false:=by cases sp with | nil=>exact absurd rfl sp0 | cons _ _=>rfl
     walk_at "r"
     refine CA ?_
     walk_at "wkd"
     refine AQ hs2 rfl ?_
     rw[if_neg nft,CF,spe]
     walk_at "r"
     refine E6 (d:=.str (a0Q "put")) rfl ?_
     exact⟨"put", by simp[IE],fun _=>sp0,fun q=>absurd rfl q,rfl,rfl⟩
   | false=>
     have so1:so≠[]:=fun q=>by rw[q] at hso;cases hso
     walk_at "wkd"
     refine AQ hs2 rfl ?_
     rw[if_neg nft,CF]
     cases hsp:sp.isEmpty with
     | false=>
       have sp1:sp≠[]:=fun q=>by rw[q] at hsp;cases hsp
       walk_at "r"
       exact⟨kd,hkd,fun _=>sp1,fun _=>so1,rfl,rfl⟩
     | true=>
       walk_at "r"
       refine CA ?_
       walk_at "r"
       refine HN (ys:=["put", "name", "split"]) ?_
       cases hin:decide (kd∈[a0Q "put", "name", "split"]) with
       | false=>
         walk_at "r"
         refine⟨kd,hkd,fun q=>?_,fun _=>so1,rfl,rfl⟩
         have:=of_decide_eq_false hin
         simp only[yX,xX,or_false] at this
         exact absurd q this
       | true=>
         walk_at "r"
         refine CA ?_
         walk_at "wkd"
         refine AQ hs2 rfl ?_
         rw[if_neg nft,CF,hsp]
         walk_at "r"
         refine E6 (d:=.str (a0Q "move")) rfl ?_
         exact⟨"move", by simp[IE],fun q=>by rcases q with q | q | q <;> exact absurd q (by decide +kernel),fun _=>so1,rfl,rfl⟩
 · rintro ρ1 M1 ⟨kd,hkd,k1,k2,rfl,rfl⟩
   have hnu : -1000000000000<=v3 - 20/\v3 - 20<=1000000000000:=by omega
   generalize v3 - 20=nu at hnu ⊢
   walk_at "r"
   refine AQ (HD hkd) (by decide +kernel) ?_
   rw[if_neg nft,D8]
   cases e1:(kd==a0Q "put") with
   | true=>
     have ek:kd=a0Q "put" := eq_of_beq e1
     walk_at "r"
     obtain⟨s0,sr,rfl⟩:∃s0 sr,sp=s0::sr:=by
       cases sp with
       | nil=>exact absurd rfl (k1 (.inl ek))
       | cons a r=>exact⟨a,r,rfl⟩
     refine E6 (ds:=(s0::sr).map .str) (AC (j:=0) rfl) ?_
     walk_at "r"
     refine⟨_,zT _,fun p' so' sp' e=>?_⟩
     obtain⟨rfl,rfl,rfl⟩:=GD e
     exact⟨.put s0 pl nu,_,rfl,hnu,⟨fun z hz=>by simp[Deed.names] at hz;subst hz;exact hno.1 _ (by simp),trivial,⟨p0,by omega⟩⟩,CS fun n hn=>by simp[Deed.names] at hn;subst hn;simp[Deed.made];exact fun q=>nd2 q (by simp),fun n e=>by simp[Deed.made] at e;subst e;rfl,ho3,rfl⟩
   | false=>
     have kne:kd≠a0Q "put" := fun q=>by rw[q] at e1;simp at e1
     have hso:=k2 kne
     have hsl:0 < so.length:=List.length_pos_iff.mpr hso
     have hs26:so.length<=26:=by have:=hno.2.2;rw[yY] at this;omega
     walk_at "r"
     refine VP ?_
     rw[zX]
     walk_at "r"
     refine BB zU ho3 (by omega) (by omega) fun v4 o4 d0 d1 ho4=>?_
     rw[yI]
     obtain⟨y1,ey1,my1⟩:=Q5 (ys:=so) d0 d1
     have hy1:AG y1:=hno.1 y1 (by simp[my1])
     refine E6 ey1 ?_
     walk_at "r"
     refine AE (B3 0) (by simp[KA]) ?_
     refine CC ?_
     walk_at "r"
     refine⟨by rw[zX];exact zQ hs26 (by decide),fun d=>!a0W d (.str y1),id,?_,?_⟩
     · intro d hd M'
       obtain⟨z,hz,rfl⟩:=zL.mp hd
       walk_at "r"
       refine⟨rfl,?_⟩
       walk_at "r"
       refine AQ (AL (hno.1 z (by simp[hz]))) (AL hy1) ?_
       rw[if_pos rfl]
       walk_at "r"
       refine⟨rfl,rfl,fun _=>?_⟩
       walk_at "r"
       exact⟨rfl,rfl⟩
     rw[E4]
     walk_at "r"
     refine AQ (HD hkd) (by decide +kernel) ?_
     rw[if_neg nft,D8]
     cases e2:(kd==a0Q "move") with
     | true=>
       have ek:kd=a0Q "move" := eq_of_beq e2
       walk_at "r"
       refine⟨_,zT _,fun p' so' sp' e=>?_⟩
       obtain⟨rfl,rfl,rfl⟩:=GD e
       exact⟨.move y1 pl,_,rfl,trivial,⟨fun z hz=>by simp[Deed.names] at hz;subst hz;exact hy1,trivial,⟨p0,by omega⟩⟩,CS fun n hn=>by simp[Deed.names] at hn;subst hn;simp[Deed.made,my1],fun n e=>by simp[Deed.made] at e,ho4,rfl⟩
     | false=>
       walk_at "r"
       refine AQ (HD hkd) (by decide +kernel) ?_
       rw[if_neg nft,D8]
       cases e3:(kd==a0Q "take") with
       | true=>
         have ek:kd=a0Q "take" := eq_of_beq e3
         walk_at "r"
         refine⟨_,zT _,fun p' so' sp' e=>?_⟩
         obtain⟨rfl,rfl,rfl⟩:=GD e
         exact⟨.take y1,_,rfl,trivial,⟨fun z hz=>by simp[Deed.names] at hz;subst hz;exact hy1,trivial,trivial⟩,CS fun n hn=>by simp[Deed.names] at hn;subst hn;simp[Deed.made,my1],fun n e=>by simp[Deed.made] at e,ho4,rfl⟩
       | false=>
         walk_at "r"
         refine AQ (HD hkd) (by decide +kernel) ?_
         rw[if_neg nft,D8]
         cases e4:(kd==a0Q "name") with
         | true=>
           have ek:kd=a0Q "name" := eq_of_beq e4
           walk_at "r"
           obtain⟨s0,sr,rfl⟩:∃s0 sr,sp=s0::sr:=by
             cases sp with
             | nil=>exact absurd rfl (k1 (.inr (.inl ek)))
             | cons a r=>exact⟨a,r,rfl⟩
           have hne:y1≠s0:=fun q=>nd2 my1 (by rw[q];simp)
           have hs0:AG s0:=hno.1 s0 (by simp)
           refine E6 (ds:=(s0::sr).map .str) (AC (j:=0) rfl) ?_
           walk_at "r"
           refine⟨_,zT _,fun p' so' sp' e=>?_⟩
           obtain⟨rfl,rfl,rfl⟩:=GD e
           exact⟨.name y1 s0,_,rfl,trivial,⟨fun z hz=>by simp[Deed.names] at hz;rcases hz with rfl | rfl;exact hy1;exact hs0,hne,trivial⟩,CS fun n hn=>by simp[Deed.names] at hn;rcases hn with rfl | rfl;(simp[Deed.made,my1];exact fun q=>hne q.symm);(simp[Deed.made];exact fun q=>nd2 q (by simp)),fun n e=>by simp[Deed.made] at e;subst e;rfl,ho4,rfl⟩
         | false=>
           walk_at "r"
           refine AQ (HD hkd) (by decide +kernel) ?_
           rw[if_neg nft,D8]
           cases e5:(kd==a0Q "split") with
           | true=>
             have ek:kd=a0Q "split" := eq_of_beq e5
             walk_at "r"
             obtain⟨s0,sr,rfl⟩:∃s0 sr,sp=s0::sr:=by
               cases sp with
               | nil=>exact absurd rfl (k1 (.inr (.inr ek)))
               | cons a r=>exact⟨a,r,rfl⟩
             have hne:y1≠s0:=fun q=>nd2 my1 (by rw[q];simp)
             have hs0:AG s0:=hno.1 s0 (by simp)
             refine E6 (ds:=(s0::sr).map .str) (AC (j:=0) rfl) ?_
             walk_at "r"
             refine⟨_,zT _,fun p' so' sp' e=>?_⟩
             obtain⟨rfl,rfl,rfl⟩:=GD e
             exact⟨.split y1 s0 pl nu,_,rfl,hnu,⟨fun z hz=>by simp[Deed.names] at hz;rcases hz with rfl | rfl;exact hy1;exact hs0,hne,⟨p0,by omega⟩⟩,CS fun n hn=>by simp[Deed.names] at hn;rcases hn with rfl | rfl;(simp[Deed.made,my1];exact fun q=>hne q.symm);(simp[Deed.made];exact fun q=>nd2 q (by simp)),fun n e=>by simp[Deed.made] at e;subst e;rfl,ho4,rfl⟩
           | false=>
             walk_at "r"
             refine AQ (HD hkd) (by decide +kernel) ?_
             rw[if_neg nft,D8]
             cases e6:(kd==a0Q "join") with
             | false=>
               walk_at "r"
               refine⟨_,zT _,fun p' so' sp' e=>?_⟩
               obtain⟨rfl,rfl,rfl⟩:=GD e
               exact⟨.count y1 nu,_,rfl,hnu,⟨fun z hz=>by simp[Deed.names] at hz;subst hz;exact hy1,trivial,trivial⟩,CS fun n hn=>by simp[Deed.names] at hn;subst hn;simp[Deed.made,my1],fun n e=>by simp[Deed.made] at e,ho4,rfl⟩
             | true=>
               walk_at "wkd"
               have hfn:∀z∈so.filter (fun z=>decide (z≠y1)),AG z:=fun z hz=>hno.1 z (by simp[(yL.mp hz).1])
               refine AQ (DC hfn) rfl ?_
               rw[if_pos rfl,show a0W (.list ((so.filter fun z=>decide (z≠y1)).map .str)) (.list [])=(so.filter fun z=>decide (z≠y1)).isEmpty from CF _]
               cases ho:(so.filter fun z=>decide (z≠y1)).isEmpty with
               | true=>
                 walk_at "r"
                 refine⟨_,zT _,fun p' so' sp' e=>?_⟩
                 obtain⟨rfl,rfl,rfl⟩:=GD e
                 exact⟨.count y1 nu,_,rfl,hnu,⟨fun z hz=>by simp[Deed.names] at hz;subst hz;exact hy1,trivial,trivial⟩,CS fun n hn=>by simp[Deed.names] at hn;subst hn;simp[Deed.made,my1],fun n e=>by simp[Deed.made] at e,ho4,rfl⟩
               | false=>
                 have hol:0 < (so.filter fun z=>decide (z≠y1)).length:=by
                   rw[List.length_pos_iff];intro q;rw[q] at ho;cases ho
                 have hol2:(so.filter fun z=>decide (z≠y1)).length<=26:=zN (yJ _ _) hs26
                 walk_at "r"
                 refine VP ?_
                 rw[zX]
                 walk_at "r"
                 refine BB zU ho4 (by omega) (by omega) fun v5 o5 f0 f1 ho5=>?_
                 rw[yI]
                 obtain⟨y2,ey2,my2⟩:=Q5 (ys:=so.filter fun z=>decide (z≠y1)) f0 f1
                 have hy2:=hfn y2 my2
                 have hne:y1≠y2:=fun e=>by have:=(yL.mp my2).2;simp at this;exact this e.symm
                 refine E6 ey2 ?_
                 walk_at "r"
                 refine⟨_,zT _,fun p' so' sp' e=>?_⟩
                 obtain⟨rfl,rfl,rfl⟩:=GD e
                 exact⟨.join y1 y2,_,rfl,trivial,⟨fun z hz=>by simp[Deed.names] at hz;rcases hz with rfl | rfl;exact hy1;exact hy2,hne,trivial⟩,CS fun n hn=>by simp[Deed.names] at hn;rcases hn with rfl | rfl;(simp[Deed.made,my1]);(simp[Deed.made,(yL.mp my2).1]),fun n e=>by simp[Deed.made] at e,ho5,rfl⟩
end
def GR:List Str:=["_law_deed_here", "_law_some", "_law_spare", "_law_stay", "_law_gone_name"]
def J0:List Str:=["_law_name", "_law_deed_here"]
def EZ:List (Option Nat):=[none,some 0]
theorem PU:J0.Nodup:=by decide +kernel
def J1:List Str:=["_law_name", "_law_gone_name"]
def BV:List (Option Nat):=[none,some 4]
theorem PV:J1.Nodup:=by decide +kernel
theorem LK:FnScope GR ["_law_deed_here", "_law_some", "_law_spare"] (AA CK):=⟨rfl,rfl,rfl,by decide +kernel,rfl,by decide +kernel,by decide +kernel⟩
section
local macro_rules | `(tactic| walk_at "cs")=>`(tactic| first | exact @FY _ _ J0 EZ (AA CK) GR (by decide +kernel) (by decide +kernel) rfl rfl | exact @FY _ _ J1 BV (AA CK) GR (by decide +kernel) (by decide +kernel) rfl rfl)
local macro_rules | `(tactic| walk_at "x")=>`(tactic| first | ((with_reducible show PT _ (.Compare _ [.In] ..) _);exact @CG _ _ _ _ _ _ _ _ (@kIn _ K rfl) (by walk_at "e") (by walk_at "e") (by with_unfolding_all rfl)) | ((with_reducible show PE _ (.Call (.Attribute _ (a0Q "get") _) ..) _);exact @jN _ _ _ _ _ _ _ _ _ hu1 (by walk_at "e") (by walk_at "e") (by walk_at "e") (@L2.M2.mk _ _ _ _ _ _ _ rfl rfl rfl rfl)) | ((with_reducible show PE _ (.Dict ..) _);exact @oI _ _ _ _ _ (@XV _ _ _ _ _ _ _ _ _ (by walk_at "e") (by walk_at "e") (@XV _ _ _ _ _ _ _ _ _ (by walk_at "e") (by walk_at "e") (@oH _ _))) rfl rfl (by simp) (by decide)))
theorem TX {f:Addr}{fd:FuncData}(F:Fun K "_law_after" "_law_after" CK f fd):FnOk P w K mg base CX0 1 f fd ["_law_deed_here", "_law_some", "_law_spare"] (spD K 3 DB):=by
 refine fnD F LK fun cdv A outer s H E hr=>?_
 have hu:=hr.units
 have hu1:=zQ (a3Q (show 1<=64 by decide) _) hu
 have nd:=LK.nd
 have n0:=PU
 have n1:=PV
 refine⟨_,by walk_at "b2", ?_⟩
 clear nd n0 n1
 rintro xs M hl ⟨D,so,sp,rfl,hr,hno,ha⟩
 have hs26:so.length<=26:=by have:=hno.2.2;rw[yY] at this;omega
 walk_at "r"
 cases D with
 | put x pl k=>
   have hx:AG x:=hr.1 x (by simp[Deed.names])
   rw[show Deed.d (Deed.put x pl k) = .tuple [.str (a0Q "put"),.str x,.int pl,.int k] from rfl]
   refine AB (d:=.str (a0Q "put")) (AC (j:=0) rfl) ?_
   walk_at "r"
   refine AR (t:=true) (by decide +kernel) ?_
   walk_at "r"
   refine CA ?_
   walk_at "r"
   refine AB (d:=.str x) (AC (j:=1) rfl) ?_
   walk_at "r"
   refine JB (by rw[zX];exact zN (a5J hs26 1) (by decide)) ?_
   walk_at "r"
   refine CV ?_
   rw[show EA (sp.map a0X) (some 1) none=(sp.drop 1).map .str from(GX _ 1).trans (by rw[b8X])]
   walk_at "r"
   refine⟨M,zT M,fun D' so' sp' e=>?_⟩
   obtain⟨rfl,rfl,rfl⟩:=IF (D:=Deed.put x pl k) e
   exact⟨by rw[show(.str x:PyData)=a0X x from rfl];simp[B2,B6,C6,Deed.made],rfl⟩
 | take x=>
   have hx:AG x:=hr.1 x (by simp[Deed.names])
   rw[show Deed.d (Deed.take x) = .tuple [.str (a0Q "take"),.str x] from rfl]
   refine AB (d:=.str (a0Q "take")) (AC (j:=0) rfl) ?_
   walk_at "r"
   refine AR (t:=false) (by decide +kernel) ?_
   walk_at "r"
   refine AB (d:=.str (a0Q "take")) (AC (j:=0) rfl) ?_
   walk_at "r"
   refine CA ?_
   walk_at "r"
   refine HN (ys:=["name", "split"]) ?_
   rw[show decide (a0Q "take" ∈ [a0Q "name", "split"])=false from by decide +kernel]
   walk_at "r"
   refine MS ?_
   refine MR fun q hq=>?_
   refine ED ?_
   walk_at "r"
   refine AB (d:=.str x) (AC (j:=1) rfl) ?_
   walk_at "r"
   refine ED ?_
   walk_at "r"
   refine AB (d:=.str x) rfl ?_
   walk_at "r"
   refine Q3 ?_
   refine⟨zU,yD rfl,by simp only[zI,a7W];decide +kernel,?_⟩
   rw[yG hq]
   walk_at "r"
   refine AB (d:=.str (a0Q "take")) (AC (j:=0) rfl) ?_
   walk_at "r"
   rw[show(IS (a0Q "take") (List.map (fun k=>(a0X k.1,k.2)) [(a0Q "take", .str x),(a0Q "join", .str x)])).getD (.str (a0Q "")) = .str x from rfl]
   refine AE (B3 0) (by simp[BV]) ?_
   refine CC ?_
   walk_at "r"
   refine⟨by rw[zX];exact zQ hs26 (by decide),fun d=>!a0W d (.str x),id,?_,?_⟩
   · intro d hd M'
     obtain⟨z,hz,rfl⟩:=zL.mp hd
     have hzn:AG z:=hno.1 z (by simp[hz])
     walk_at "r"
     refine⟨rfl,?_⟩
     walk_at "r"
     refine AQ (AL hzn) (AL hx) ?_
     rw[if_pos rfl]
     walk_at "r"
     refine⟨rfl,rfl,fun _=>?_⟩
     walk_at "r"
     exact⟨rfl,rfl⟩
   rw[E4]
   walk_at "r"
   refine⟨M,zT M,fun D' so' sp' e=>?_⟩
   obtain⟨rfl,rfl,rfl⟩:=IF (D:=Deed.take x) e
   exact⟨rfl,rfl⟩
 | move x pl=>
   have hx:AG x:=hr.1 x (by simp[Deed.names])
   rw[show Deed.d (Deed.move x pl) = .tuple [.str (a0Q "move"),.str x,.int pl] from rfl]
   refine AB (d:=.str (a0Q "move")) (AC (j:=0) rfl) ?_
   walk_at "r"
   refine AR (t:=false) (by decide +kernel) ?_
   walk_at "r"
   refine AB (d:=.str (a0Q "move")) (AC (j:=0) rfl) ?_
   walk_at "r"
   refine CA ?_
   walk_at "r"
   refine HN (ys:=["name", "split"]) ?_
   rw[show decide (a0Q "move" ∈ [a0Q "name", "split"])=false from by decide +kernel]
   walk_at "r"
   refine MS ?_
   refine MR fun q hq=>?_
   refine ED ?_
   walk_at "r"
   refine AB (d:=.str x) (AC (j:=1) rfl) ?_
   walk_at "r"
   refine ED ?_
   walk_at "r"
   refine AB (d:=.int pl) rfl ?_
   walk_at "r"
   refine Q3 ?_
   refine⟨zU,yD rfl,by simp only[zI,a7W];decide +kernel,?_⟩
   rw[yG hq]
   walk_at "r"
   refine AB (d:=.str (a0Q "move")) (AC (j:=0) rfl) ?_
   walk_at "r"
   rw[show(IS (a0Q "move") (List.map (fun k=>(a0X k.1,k.2)) [(a0Q "take", .str x),(a0Q "join", .int pl)])).getD (.str (a0Q "")) = .str (a0Q "") from rfl]
   refine AE (B3 0) (by simp[BV]) ?_
   refine CC ?_
   walk_at "r"
   refine⟨by rw[zX];exact zQ hs26 (by decide),fun d=>!a0W d (.str (a0Q "")),id,?_,?_⟩
   · intro d hd M'
     obtain⟨z,hz,rfl⟩:=zL.mp hd
     have hzn:AG z:=hno.1 z (by simp[hz])
     walk_at "r"
     refine⟨rfl,?_⟩
     walk_at "r"
     refine AQ (AL hzn) (by decide +kernel) ?_
     rw[if_pos rfl]
     walk_at "r"
     refine⟨rfl,rfl,fun _=>?_⟩
     walk_at "r"
     exact⟨rfl,rfl⟩
   rw[E4]
   walk_at "r"
   refine⟨M,zT M,fun D' so' sp' e=>?_⟩
   obtain⟨rfl,rfl,rfl⟩:=IF (D:=Deed.move x pl) e
   exact⟨by rw[eV fun z hz=>hno.1 z (by simp[hz])];rfl,rfl⟩
 | count x k=>
   have hx:AG x:=hr.1 x (by simp[Deed.names])
   rw[show Deed.d (Deed.count x k) = .tuple [.str (a0Q "count"),.str x,.int k] from rfl]
   refine AB (d:=.str (a0Q "count")) (AC (j:=0) rfl) ?_
   walk_at "r"
   refine AR (t:=false) (by decide +kernel) ?_
   walk_at "r"
   refine AB (d:=.str (a0Q "count")) (AC (j:=0) rfl) ?_
   walk_at "r"
   refine CA ?_
   walk_at "r"
   refine HN (ys:=["name", "split"]) ?_
   rw[show decide (a0Q "count" ∈ [a0Q "name", "split"])=false from by decide +kernel]
   walk_at "r"
   refine MS ?_
   refine MR fun q hq=>?_
   refine ED ?_
   walk_at "r"
   refine AB (d:=.str x) (AC (j:=1) rfl) ?_
   walk_at "r"
   refine ED ?_
   walk_at "r"
   refine AB (d:=.int k) rfl ?_
   walk_at "r"
   refine Q3 ?_
   refine⟨zU,yD rfl,by simp only[zI,a7W];decide +kernel,?_⟩
   rw[yG hq]
   walk_at "r"
   refine AB (d:=.str (a0Q "count")) (AC (j:=0) rfl) ?_
   walk_at "r"
   rw[show(IS (a0Q "count") (List.map (fun k=>(a0X k.1,k.2)) [(a0Q "take", .str x),(a0Q "join", .int k)])).getD (.str (a0Q "")) = .str (a0Q "") from rfl]
   refine AE (B3 0) (by simp[BV]) ?_
   refine CC ?_
   walk_at "r"
   refine⟨by rw[zX];exact zQ hs26 (by decide),fun d=>!a0W d (.str (a0Q "")),id,?_,?_⟩
   · intro d hd M'
     obtain⟨z,hz,rfl⟩:=zL.mp hd
     have hzn:AG z:=hno.1 z (by simp[hz])
     walk_at "r"
     refine⟨rfl,?_⟩
     walk_at "r"
     refine AQ (AL hzn) (by decide +kernel) ?_
     rw[if_pos rfl]
     walk_at "r"
     refine⟨rfl,rfl,fun _=>?_⟩
     walk_at "r"
     exact⟨rfl,rfl⟩
   rw[E4]
   walk_at "r"
   refine⟨M,zT M,fun D' so' sp' e=>?_⟩
   obtain⟨rfl,rfl,rfl⟩:=IF (D:=Deed.count x k) e
   exact⟨by rw[eV fun z hz=>hno.1 z (by simp[hz])];rfl,rfl⟩
 | name x y=>
   have hx:AG x:=hr.1 x (by simp[Deed.names])
   have hy:AG y:=hr.1 y (by simp[Deed.names])
   rw[show Deed.d (Deed.name x y) = .tuple [.str (a0Q "name"),.str x,.str y] from rfl]
   refine AB (d:=.str (a0Q "name")) (AC (j:=0) rfl) ?_
   walk_at "r"
   refine AR (t:=false) (by decide +kernel) ?_
   walk_at "r"
   refine AB (d:=.str (a0Q "name")) (AC (j:=0) rfl) ?_
   walk_at "r"
   refine CA ?_
   walk_at "r"
   refine HN (ys:=["name", "split"]) ?_
   rw[show decide (a0Q "name" ∈ [a0Q "name", "split"])=true from by decide +kernel]
   walk_at "r"
   refine AE (B3 0) (by simp[EZ]) ?_
   refine CC ?_
   walk_at "r"
   refine⟨by rw[zX];exact zQ hs26 (by decide),fun d=>!a0W d (.str x),id,?_,?_⟩
   · intro d hd M'
     obtain⟨z,hz,rfl⟩:=zL.mp hd
     have hzn:AG z:=hno.1 z (by simp[hz])
     walk_at "r"
     refine⟨rfl,?_⟩
     walk_at "r"
     refine AB (d:=.str x) (AC (j:=1) rfl) ?_
     refine AQ (AL hzn) (AL hx) ?_
     rw[if_pos rfl]
     cases hq:a0W (.str z) (.str x) with
     | false=>
       walk_at "r"
       refine⟨rfl,by show _ = !a0W (.str z) (.str x);rw[hq];rfl,fun _=>?_⟩
       walk_at "r"
       exact⟨rfl,rfl⟩
     | true=>
       walk_at "r"
       refine AB (d:=.str (a0Q "name")) (AC (j:=0) rfl) ?_
       walk_at "r"
       refine AR (t:=false) (by decide +kernel) ?_
       walk_at "r"
       refine⟨rfl,by show _ = !a0W (.str z) (.str x);rw[hq];rfl,fun h=>?_⟩
       have h:(!a0W (.str z) (.str x))=true:=h
       rw[hq] at h;cases h
   rw[E4]
   walk_at "wkd"
   refine AB (d:=.str y) (AC (j:=2) rfl) ?_
   walk_at "r"
   refine JB (by rw[zX];exact zN (a5J (zN (yJ _ _) hs26) 1) (by decide)) ?_
   walk_at "r"
   refine CV ?_
   rw[show EA (sp.map a0X) (some 1) none=(sp.drop 1).map .str from(GX _ 1).trans (by rw[b8X])]
   walk_at "r"
   refine⟨M,zT M,fun D' so' sp' e=>?_⟩
   obtain⟨rfl,rfl,rfl⟩:=IF (D:=Deed.name x y) e
   exact⟨by simp[B2,B6,C6,Deed.made],rfl⟩
 | split x y pl k=>
   have hx:AG x:=hr.1 x (by simp[Deed.names])
   have hy:AG y:=hr.1 y (by simp[Deed.names])
   rw[show Deed.d (Deed.split x y pl k) = .tuple [.str (a0Q "split"),.str x,.str y,.int pl,.int k] from rfl]
   refine AB (d:=.str (a0Q "split")) (AC (j:=0) rfl) ?_
   walk_at "r"
   refine AR (t:=false) (by decide +kernel) ?_
   walk_at "r"
   refine AB (d:=.str (a0Q "split")) (AC (j:=0) rfl) ?_
   walk_at "r"
   refine CA ?_
   walk_at "r"
   refine HN (ys:=["name", "split"]) ?_
   rw[show decide (a0Q "split" ∈ [a0Q "name", "split"])=true from by decide +kernel]
   walk_at "r"
   refine AE (B3 0) (by simp[EZ]) ?_
   refine CC ?_
   walk_at "r"
   refine⟨by rw[zX];exact zQ hs26 (by decide),fun _=>true,id,?_,?_⟩
   · intro d hd M'
     obtain⟨z,hz,rfl⟩:=zL.mp hd
     have hzn:AG z:=hno.1 z (by simp[hz])
     walk_at "r"
     refine⟨rfl,?_⟩
     walk_at "r"
     refine AB (d:=.str x) (AC (j:=1) rfl) ?_
     refine AQ (AL hzn) (AL hx) ?_
     rw[if_pos rfl]
     cases hq:a0W (.str z) (.str x) with
     | false=>
       walk_at "r"
       refine⟨rfl,rfl,fun _=>?_⟩
       walk_at "r"
       exact⟨rfl,rfl⟩
     | true=>
       walk_at "r"
       refine AB (d:=.str (a0Q "split")) (AC (j:=0) rfl) ?_
       walk_at "r"
       refine AR (t:=true) (by decide +kernel) ?_
       walk_at "r"
       refine⟨rfl,rfl,fun _=>?_⟩
       walk_at "r"
       exact⟨rfl,rfl⟩
   rw[c6,c2V]
   walk_at "wkd"
   refine AB (d:=.str y) (AC (j:=2) rfl) ?_
   walk_at "r"
   refine JB (by rw[zX];exact zN (a5J (hs26) 1) (by decide)) ?_
   walk_at "r"
   refine CV ?_
   rw[show EA (sp.map a0X) (some 1) none=(sp.drop 1).map .str from(GX _ 1).trans (by rw[b8X])]
   walk_at "r"
   refine⟨M,zT M,fun D' so' sp' e=>?_⟩
   obtain⟨rfl,rfl,rfl⟩:=IF (D:=Deed.split x y pl k) e
   exact⟨by simp[B2,B6,C6,Deed.made],rfl⟩
 | join x y=>
   have hx:AG x:=hr.1 x (by simp[Deed.names])
   have hy:AG y:=hr.1 y (by simp[Deed.names])
   rw[show Deed.d (Deed.join x y) = .tuple [.str (a0Q "join"),.str x,.str y] from rfl]
   refine AB (d:=.str (a0Q "join")) (AC (j:=0) rfl) ?_
   walk_at "r"
   refine AR (t:=false) (by decide +kernel) ?_
   walk_at "r"
   refine AB (d:=.str (a0Q "join")) (AC (j:=0) rfl) ?_
   walk_at "r"
   refine CA ?_
   walk_at "r"
   refine HN (ys:=["name", "split"]) ?_
   rw[show decide (a0Q "join" ∈ [a0Q "name", "split"])=false from by decide +kernel]
   walk_at "r"
   refine MS ?_
   refine MR fun q hq=>?_
   refine ED ?_
   walk_at "r"
   refine AB (d:=.str x) (AC (j:=1) rfl) ?_
   walk_at "r"
   refine ED ?_
   walk_at "r"
   refine AB (d:=.str y) rfl ?_
   walk_at "r"
   refine Q3 ?_
   refine⟨zU,yD rfl,by simp only[zI,a7W];decide +kernel,?_⟩
   rw[yG hq]
   walk_at "r"
   refine AB (d:=.str (a0Q "join")) (AC (j:=0) rfl) ?_
   walk_at "r"
   rw[show(IS (a0Q "join") (List.map (fun k=>(a0X k.1,k.2)) [(a0Q "take", .str x),(a0Q "join", .str y)])).getD (.str (a0Q "")) = .str y from rfl]
   refine AE (B3 0) (by simp[BV]) ?_
   refine CC ?_
   walk_at "r"
   refine⟨by rw[zX];exact zQ hs26 (by decide),fun d=>!a0W d (.str y),id,?_,?_⟩
   · intro d hd M'
     obtain⟨z,hz,rfl⟩:=zL.mp hd
     have hzn:AG z:=hno.1 z (by simp[hz])
     walk_at "r"
     refine⟨rfl,?_⟩
     walk_at "r"
     refine AQ (AL hzn) (AL hy) ?_
     rw[if_pos rfl]
     walk_at "r"
     refine⟨rfl,rfl,fun _=>?_⟩
     walk_at "r"
     exact⟨rfl,rfl⟩
   rw[E4]
   walk_at "r"
   refine⟨M,zT M,fun D' so' sp' e=>?_⟩
   obtain⟨rfl,rfl,rfl⟩:=IF (D:=Deed.join x y) e
   exact⟨rfl,rfl⟩
end
def LL:List Str:=["_law_pack", "_law_names_here", "_law_amount", "_law_some"]
def J2:List Str:=["_law_k", "_law_names_here", "_law_pack"]
def J3:List (Option Nat):=[none,some 1,some 0]
theorem PX:J2.Nodup:=by decide +kernel
theorem LM:FnScope LL ["_law_pack", "_law_names_here", "_law_amount"] (AA DN):=⟨rfl,rfl,rfl,by decide +kernel,rfl,by decide +kernel,by decide +kernel⟩
section
local macro_rules | `(tactic| walk_at "cs")=>`(tactic| first | exact @FY _ _ J2 J3 (AA DN) LL (by decide +kernel) (by decide +kernel) rfl rfl)
theorem TY {f:Addr}{fd:FuncData}(F:Fun K "_law_start" "_law_start" DN f fd) (n_range:mg "range"=none) (n_sorted:mg "sorted"=none) (n_tuple:mg "tuple"=none) (h__law_take:Has P w K mg base "_law_take" 1 ["_law_pack", "_law_size"] BN):FnOk P w K mg base CX0 2 f fd ["_law_pack", "_law_names_here", "_law_amount"] (spD K 3 HI):=by
 refine fnD F LM fun cdv A outer s H E hr=>?_
 have hu:=hr.units
 have nd:=LM.nd
 have n0:=PX
 refine⟨_,by walk_at "b2", ?_⟩
 clear nd n0
 rintro xs M hl ⟨p,o,ys,n,rfl,m,ho,hy,hn⟩
 have h26:n<=26:=zN hn hy.2.2
 walk_at "dl";walk_at "dl"
 refine VM (B3 0) (by simp[J3]) ?_
 refine Q0 ?_
 walk_at "r"
 refine⟨by omega,by omega,?_⟩
 have hnn:(G9 0 (n:Int).toNat).length=n:=by simp[G9]
 refine⟨by rw[hnn];exact zQ h26 (by decide),fun A hA=>?_⟩
 have hpA:p≠A:=by rintro rfl;rw[m] at hA;cases hA
 refine⟨fun k acc M'=>∃(w:List Th) (o2:MO),acc=w.map thD/\w.length=k/\w.map (·.1)=ys.take k/\(∀t∈w,0<=t.2.1/\t.2.1<=999/\-1000000000000<=t.2.2/\t.2.2<=1000000000000)/\EE o2/\M'=(M.put p o2).put A (.l acc),⟨[],o,rfl,rfl,by simp,by simp,ho,by rw[Own.put_self m]⟩,?_,?_,?_⟩
 · rintro k acc M' ⟨w,o2,rfl,hk,-,-,-,rfl⟩
   exact⟨zU,by simp[hk]⟩
 · rintro k d acc M' hd ⟨w,o2,rfl,hk,hw,hb,ho2,rfl⟩
   have hkn:k < n:=by rw[← hnn];exact(yT.mp hd).1
   have ed:d = .int k:=by
     unfold G9 at hd
     rw[zF,yA (by omega)] at hd
     simp at hd;exact hd.symm
   subst ed
   have hky:k < ys.length:=by omega
   have hg:(ys.map a0X)[k]?=some (.str ys[k]):=by rw[zF,zV hky];rfl
   walk_at "r"
   refine E6 (AC hg) ?_
   walk_at "r"
   refine BB (by rw[yH hpA];exact zU) ho2 (by decide) (by decide) fun v o3 h0 h1 ho3=>?_
   walk_at "r"
   refine BB zU ho3 (by decide) (by decide) fun v2 o4 z0 z1 ho4=>?_
   walk_at "r"
   refine⟨by rw[yI,yH hpA.symm];exact zU,w++[(ys[k],v,v2 - 20)],o4,by simp[thD],by simp[hk],by rw[xI,hw,a4X,zV hky];rfl,?_,ho4,?_⟩
   · intro t ht
     rcases yW.mp ht with h | h
     · exact hb t h
     · have:t=(ys[k],v,v2 - 20):=by simpa using h
       subst this;exact⟨h0,by show v<=999;omega,by show -1000000000000<=v2 - 20;omega,by show v2 - 20<=1000000000000;omega⟩
   · rw[yI];exact kU hpA
 · rintro acc M' ⟨w,o2,rfl,hk,hw,hb,ho2,rfl⟩
   rw[hnn] at hk hw
   rw[yG (by rw[yH hpA.symm];exact hA)]
   walk_at "r"
   have ndw:(w.map (·.1)).Nodup:=by rw[hw];exact hy.2.1.sublist (List.take_sublist _ _)
   rw[← mT]
   refine m7 (by rw[zD];exact ndw) (by rw[zX];omega) fun ts' hp hlt=>?_
   obtain⟨u1,u2,u3⟩:=mU hp
   rw[u2]
   walk_at "r"
   refine KJ ?_
   refine⟨M.put p o2,zT _,fun p' ys' n' e=>?_⟩
   simp only[List.cons.injEq,DS.loc.injEq,DS.d.injEq,PyData.int.injEq,Int.ofNat_inj,and_true] at e
   obtain⟨rfl,e,rfl⟩:=e
   have e:=JO e
   subst e
   refine⟨ts'.map unB,o2,rfl,⟨by rw[u3];exact cB hlt,fun t ht=>?_⟩,by rw[← hw];exact u1.map _,ho2,rfl⟩
   have ht:=u1.mem_iff.mp ht
   refine⟨hy.1 _ ?_,hb t ht⟩
   have:t.1∈ys.take n:=by rw[← hw];exact zL.mpr ⟨t,ht,rfl⟩
   exact a7J this
end
def XB:List Str:=["_law_head", "_law_cells", "_law_pack", "_law_spare", "_law_amount", "_law_start_here", "_law_some", "_law_lines", "_law_cell", "_law_digits", "_law_hand", "_law_deed_here"]
theorem NN:FnScope XB ["_law_head", "_law_cells"] (AA GI):=⟨rfl,rfl,rfl,by decide +kernel,rfl,by decide +kernel,by decide +kernel⟩
section
local macro_rules | `(tactic| walk_at "x")=>`(tactic| first | ((with_reducible show PS _ (.Assign [.Tuple ..] ..) _);exact @GM _ _ _ _ _ _ (by walk_at "e") (by walk_at "g") (by rfl) (by rfl) (by rfl)) | ((with_reducible show PG _ (.Tuple ..) _);exact @UQ _ K _ _ _ _ (2) rfl rfl (by walk_at "j") (by rfl) (by rfl)))
theorem XC {f:Addr}{fd:FuncData}(F:Fun K "_law_book" "_law_book" GI f fd) (n_tuple:mg "tuple"=none) (h__law_after:Has P w K mg base "_law_after" 1 ["_law_deed_here", "_law_some", "_law_spare"] DB) (h__law_deed:Has P w K mg base "_law_deed" 2 ["_law_pack", "_law_some", "_law_spare"] JV) (h__law_mixed:Has P w K mg base "_law_mixed" 1 ["_law_cell"] D6) (h__law_names:Has P w K mg base "_law_names" 2 ["_law_pack", "_law_amount"] D7) (h__law_start:Has P w K mg base "_law_start" 2 ["_law_pack", "_law_names_here", "_law_amount"] HI) (h__law_take:Has P w K mg base "_law_take" 1 ["_law_pack", "_law_size"] BN):FnOk P w K mg base CX0 3 f fd ["_law_head", "_law_cells"] (spD K 2 JW):=by
 refine fnD F NN fun cdv A outer s H E hr=>?_
 have hu:=hr.units
 have nd:=NN.nd
 refine⟨_,by walk_at "b2", ?_⟩
 clear nd
 rintro xs M hl ⟨h,cs,rfl,hh,hcs,hcl⟩
 walk_at "r"
 refine KH ?_
 walk_at "r"
 refine RP hh fun v=>?_
 walk_at "r"
 intro p hp
 walk_at "r"
 refine bY zU ⟨v,rfl⟩ (by decide) (by decide) fun ys o1 hyl hy hyb hyn ho1=>?_
 rw[yI]
 walk_at "r"
 refine BB zU ho1 (by decide) (by decide) fun va o2 a0 a1 ho2=>?_
 rw[yI]
 obtain⟨n,rfl⟩:∃n:Nat,va=(n:Int):=⟨va.toNat,by omega⟩
 have hyok:namesOK ys:=⟨hy,hyn,by omega⟩
 walk_at "r"
 refine WS zU ho2 hyok (by omega) fun w0 o3 hw0 hp0 ho3=>?_
 have hl0:w0.length<=5:=by
   have:=hp0.length_eq
   rw[zX,a2Z] at this
   omega
 rw[yI]
 walk_at "r"
 refine CV ?_
 rw[VS,← b8Q]
 walk_at "r"
 refine CV ?_
 rw[GX,← b8X]
 walk_at "r"
 refine KH ?_
 walk_at "r"
 intro A hA
 have hpA:p≠A:=by rintro rfl;rw[zU] at hA;cases hA
 have hMA:M A=none:=by rw[yH hpA.symm] at hA;exact hA
 walk_at "wks"
 refine NW (fun ρ1 M1=>∃(ls:List (Str×Deed)) (so sp:List Str) (x1 x2 x3 x4:Option DS),M.Sub M1/\M1 A=some (.l (ls.map BS))/\B75 w0 ls/\ls.length<=cs.length/\ρ1=[some (.d (.int h)),some (.d (.list (cs.map .int))),some (.loc p),some (.d (B2 sp)),some (.d (.int n)),some (.d (wD w0)),some (.d (B2 so)),some (.loc A),x1,x2,x3,x4]) ?_ ?_
 · refine LP ?_
   refine CC ?_
   walk_at "r"
   refine⟨fun k ρ1 M1=>k<=cs.length/\∃(ls:List (Str×Deed)) (so sp:List Str) (x1 x2 x3 x4:Option DS),M.Sub M1/\M1 A=some (.l (ls.map BS))/\(FX (ys.take n) (ys.drop n) (ls.map (·.2))/\OS (ys.take n) (ys.drop n) (ls.map (·.2))=(so,sp))/\(∀l∈ls,AG l.1/\l.2.fit)/\ls.length<=k/\namesOK (so++sp)/\ρ1=[some (.d (.int h)),some (.d (.list (cs.map .int))),some (.loc p),some (.d (B2 sp)),some (.d (.int n)),some (.d (wD w0)),some (.d (B2 so)),some (.loc A),x1,x2,x3,x4],⟨xT _,[],ys.take n,ys.drop n,_,_,_,_,?_,zU,⟨trivial,rfl⟩,by simp,by simp,by rw[List.take_append_drop];exact hyok,rfl⟩,?_,?_⟩
   · exact((zT M).put hp).put hMA
   · rintro k d ρ1 M1 hd ⟨hkc,ls,so,sp,x1,x2,x3,x4,hsub,hMa,hb,hnl,hlk,hno,rfl⟩
     have hkl:k < cs.length:=by have:=(yT.mp hd).1;simpa using this
     obtain⟨c,hc,rfl⟩:=zL.mp (yN hd)
     walk_at "r"
     refine KH ?_
     walk_at "r"
     refine RP (hcs c hc) fun v2=>?_
     walk_at "r"
     intro q hq
     have hqA:q≠A:=by rintro rfl;rw[hMa] at hq;cases hq
     have hMq:M q=none:=by
       cases e:M q with
       | none=>rfl
       | some ob=>rw[hsub q ob e] at hq;cases hq
     walk_at "r"
     refine CA ?_
     walk_at "r"
     refine BB zU ⟨v2,rfl⟩ (by decide) (by decide) fun v3 o4 b0 b1 ho4=>?_
     rw[yI]
     obtain⟨hd',ehd,mhd⟩:=Q5 (ys:=[a0Q "me", "you", "abcdefgh"]) b0 b1
     refine E6 (d:=.str hd') ehd ?_
     have hs1:zH (B2 so)=true:=DC fun z hz=>hno.1 z (by simp[hz])
     have hs2:zH (B2 sp)=true:=DC fun z hz=>hno.1 z (by simp[hz])
     walk_at "wkd"
     refine AQ hs1 rfl ?_
     rw[if_pos rfl,CF]
     have keep:∀ob:MO,M.Sub (M1.put q ob):=fun ob b o e=>by
       rw[yH (by rintro rfl;rw[hMq] at e;cases e)];exact hsub b o e
     cases hso:so.isEmpty with
     | false=>
       have hne:so≠[]∨sp≠[]:=.inl fun q=>by rw[q] at hso;cases hso
       walk_at "r"
       · refine OV zU ho4 hno hne fun D o5 hft hr ha hm ho5=>?_
         rw[yI]
         walk_at "r"
         refine EW ?_
         walk_at "r"
         refine RX hr hno ha ?_
         walk_at "r"
         refine CO ?_
         walk_at "dl"
         refine⟨MI (ds:=ls.map BS) (by rw[yH hqA.symm];exact hMa),?_⟩
         walk_at "r"
         refine GU (ds:=ls.map BS) (by rw[yH hqA.symm];exact hMa) (by rw[zX];exact zQ (show _<=50 by omega) (by decide)) ?_
         refine⟨by omega,ls++[(hd',D)],B6 so D,C6 sp D,_,_,_,_,?_,?_,?_,?_,?_,hno.sub (HC hm),rfl⟩
         · intro b o e
           rw[yH (by rintro rfl;rw[hMA] at e;cases e)]
           exact keep _ b o e
         · rw[xI];exact zU
         · rw[xI];exact LV hb.1 hb.2 ha hm hr
         · intro l hl'
           rcases yW.mp hl' with q1 | q1
           · exact hnl l q1
           · have:l=(hd',D):=by simpa using q1
             subst this;exact⟨ZA _ mhd,hft⟩
         · rw[yY];simp;omega
     | true=>
       walk_at "wkd"
       refine AQ hs2 rfl ?_
       rw[if_pos rfl,CF]
       cases hsp:sp.isEmpty with
       | false=>
         have hne:so≠[]∨sp≠[]:=.inr fun q=>by rw[q] at hsp;cases hsp
         walk_at "r"
         · refine OV zU ho4 hno hne fun D o5 hft hr ha hm ho5=>?_
           rw[yI]
           walk_at "r"
           refine EW ?_
           walk_at "r"
           refine RX hr hno ha ?_
           walk_at "r"
           refine CO ?_
           walk_at "dl"
           refine⟨MI (ds:=ls.map BS) (by rw[yH hqA.symm];exact hMa),?_⟩
           walk_at "r"
           refine GU (ds:=ls.map BS) (by rw[yH hqA.symm];exact hMa) (by rw[zX];exact zQ (show _<=50 by omega) (by decide)) ?_
           refine⟨by omega,ls++[(hd',D)],B6 so D,C6 sp D,_,_,_,_,?_,?_,?_,?_,?_,hno.sub (HC hm),rfl⟩
           · intro b o e
             rw[yH (by rintro rfl;rw[hMA] at e;cases e)]
             exact keep _ b o e
           · rw[xI];exact zU
           · rw[xI];exact LV hb.1 hb.2 ha hm hr
           · intro l hl'
             rcases yW.mp hl' with q1 | q1
             · exact hnl l q1
             · have:l=(hd',D):=by simpa using q1
               subst this;exact⟨ZA _ mhd,hft⟩
           · rw[yY];simp;omega
       | true=>
         walk_at "r"
         exact⟨by omega,ls,so,sp,_,_,_,_,keep _,by rw[yH hqA.symm];exact hMa,hb,hnl,by omega,hno,rfl⟩
   · rintro ρ1 M1 ⟨hkc,ls,so,sp,x1,x2,x3,x4,hsub,hMa,hb,hnl,hlk,hno,rfl⟩
     rw[zX] at hlk
     exact⟨ls,so,sp,x1,x2,x3,x4,hsub,hMa,⟨(B33.of (cs:=cs) (iS hw0) hp0 hl0 (by rw[List.take_append_drop];exact hyok) ⟨hb.1,hb.2,fun l hl=>(hnl l hl).1,hlk,hno⟩ hcl).cb,hw0,hl0,fun l hl=>(hnl l hl).2,by omega⟩,hlk,rfl⟩
 · rintro ρ1 M1 ⟨ls,so,sp,x1,x2,x3,x4,hsub,hMa,hreal,hlc,rfl⟩
   walk_at "r"
   refine mV hMa ?_
   walk_at "r"
   refine⟨M,hsub,fun h' cs' e=>?_⟩
   obtain⟨rfl,rfl⟩:=rL e
   exact⟨rfl,w0,ls,rfl,hreal⟩
end
def G5:List Str:=["_law_world"]
def ES:List Str:=["_law_name", "_law_place", "_law_number"]
def ET:List (Option Nat):=[none,none,none]
theorem KB:ES.Nodup:=by decide +kernel
theorem G6:FnScope G5 ["_law_world"] (AA BH):=⟨rfl,rfl,rfl,by decide +kernel,rfl,by decide +kernel,by decide +kernel⟩
section
local macro_rules | `(tactic| walk_at "cs")=>`(tactic| first | exact @FY _ _ ES ET (AA BH) G5 (by decide +kernel) (by decide +kernel) rfl rfl)
local macro_rules | `(tactic| walk_at "x")=>`(tactic| first | ((with_reducible show PE _ (.Call (.Attribute _ (a0Q "join") _) ..) _);exact @kBm _ K _ _ _ _ _ _ _ _ _ _ _ rfl a1Q a6Z a6X (@UB _ K rfl) (by walk_at "e") (by walk_at "a") (by rfl) (by rfl) (by rfl) (by rfl) (by rfl)) | ((with_reducible show PG _ (.Tuple ..) _);exact @MK _ K _ _ _ _ (3) rfl rfl (by walk_at "j") (by rfl) (by rfl)))
local macro_rules | `(tactic| walk_at "y")=>`(tactic| first | ((with_reducible show PE _ (.Call (.Name (a0Q "str") _) ..) _);exact @FK _ _ _ _ _ _ _ _ _ (@vL _ K rfl) (by rfl) n_str b0K (by walk_at "a") (by decide) (by decide) (by rfl) (by rfl)))
theorem MA {f:Addr}{fd:FuncData}(F:Fun K "_law_world_text" "_law_world_text" BH f fd) (n_str:mg "str"=none):FnOk P w K mg base CX0 1 f fd ["_law_world"] (spD K 1 JG):=by
 refine fnD F G6 fun cdv A outer s H E hr=>?_
 have hu:=hr.units
 have nd:=G6.nd
 have n0:=KB
 refine⟨_,by walk_at "b2", ?_⟩
 clear nd n0
 rintro xs M hl ⟨d,rfl,w,rfl,hw,hwl⟩
 walk_at "r"
 refine AQ (h8 hw hwl) rfl ?_
 rw[if_neg nft]
 by_cases hne:w=[]
 · subst hne
   rw[show a0W (wD []) (.tuple [])=true from rfl]
   walk_at "r"
   exact⟨M,zT M,fun d' e=>by cases e;exact⟨rfl,rfl⟩⟩
 · rw[wL hne]
   walk_at "r"
   refine CO ?_
   walk_at "r"
   refine⟨BI,?_⟩
   walk_at "r"
   refine AE (JA (B5 (B5 (B5 HP)))) (by simp[ET]) ?_
   refine CI ?_
   walk_at "r"
   refine⟨by rw[zX];exact zQ hwl (by decide),fun _=>true,qA,?_,?_⟩
   · intro d hd M'
     obtain⟨t,ht,rfl⟩:=zL.mp hd
     have gt:=hw.th t ht
     have sz:∀k:Nat,k<=1000->k<=sizeLine:=fun k h=>zN h (by decide)
     have l1:t.1.length<=8:=gt.1.2.1
     have l2:=(B1 gt.place).2
     have l3:=(B1 gt.count).2
     rw[show thD t = .tuple [.str t.1,.int t.2.1,.int t.2.2] from rfl]
     walk_at "r"
     refine⟨rfl,?_⟩
     walk_at "dl"
     refine⟨rfl,rfl,fun _=>?_⟩
     walk_at "r"
     have b1:(t.1++a0Q "@").length<=9:=by rw[CU,JF];omega
     have b2:((t.1++a0Q "@")++AI t.2.1).length<=28:=by rw[CU];omega
     have b3:(((t.1++a0Q "@")++AI t.2.1)++a0Q ":").length<=29:=by rw[CU,GA];omega
     refine BC (sz _ (zN (a7V l1 (b5X JF)) (by decide))) ?_
     walk_at "r"
     refine QN (MQ gt.place) ?_
     refine BC (sz _ (zN (a7V b1 l2) (by decide))) ?_
     walk_at "r"
     refine BC (sz _ (zN (a7V b2 (b5X GA)) (by decide))) ?_
     walk_at "r"
     refine QN (MQ gt.count) ?_
     refine BC (sz _ (zN (a7V b3 l3) (by decide))) ?_
     exact⟨rfl,rfl⟩
   · rw[eB]
     walk_at "r"
     refine KI (zN (O0 hw hwl) (by decide)) ?_
     refine⟨M,zT M,fun d' e=>?_⟩
     cases e
     refine⟨congrArg DS.d ?_,rfl⟩
     rw[e8,RD hne]
end
def GJ:List Str:=["_law_deed_here"]
def F3:List Str:=["_law_part"]
def F4:List (Option Nat):=[none]
theorem KY:F3.Nodup:=by decide +kernel
theorem GK:FnScope GJ ["_law_deed_here"] (AA BM):=⟨rfl,rfl,rfl,by decide +kernel,rfl,by decide +kernel,by decide +kernel⟩
section
local macro_rules | `(tactic| walk_at "cs")=>`(tactic| first | exact @FY _ _ F3 F4 (AA BM) GJ (by decide +kernel) (by decide +kernel) rfl rfl)
local macro_rules | `(tactic| walk_at "x")=>`(tactic| first | ((with_reducible show PE _ (.Call (.Attribute _ (a0Q "join") _) ..) _);exact @kBm _ K _ _ _ _ _ _ _ _ _ _ _ rfl a1Q a6Z a6X (@UB _ K rfl) (by walk_at "e") (by walk_at "a") (by rfl) (by rfl) (by rfl) (by rfl) (by rfl)))
local macro_rules | `(tactic| walk_at "y")=>`(tactic| first | ((with_reducible show PE _ (.Call (.Name (a0Q "str") _) ..) _);exact @FK _ _ _ _ _ _ _ _ _ (@A0n _ K rfl) (by rfl) n_str b0K (by walk_at "a") (by decide) (by decide) (by rfl) (by rfl)))
theorem NO {f:Addr}{fd:FuncData}(F:Fun K "_law_deed_text" "_law_deed_text" BM f fd) (n_str:mg "str"=none):FnOk P w K mg base CX0 1 f fd ["_law_deed_here"] (spD K 1 CY):=by
 refine fnD F GK fun cdv A outer s H E hr=>?_
 have hu:=hr.units
 have nd:=GK.nd
 have n0:=KY
 refine⟨_,by walk_at "b1", ?_⟩
 clear nd n0
 rintro xs M hl ⟨d,rfl,D,rfl,hr,hf⟩
 have hp:=JQ hr hf
 rw[show D.d = .tuple D.list from D.d_eq]
 walk_at "r"
 refine CO ?_
 walk_at "dl"
 refine⟨BI,?_⟩
 walk_at "r"
 refine AE (B3 0) (by simp[F4]) ?_
 refine CI ?_
 walk_at "r"
 refine⟨zQ (HE D) (by decide),fun _=>true,fun d=>.str (BU d),?_,?_⟩
 · intro d hd M'
   rcases hp d hd with ⟨s,rfl,h1,h2⟩ | ⟨n,rfl,hb⟩
   · walk_at "r"
     refine⟨rfl,?_⟩
     walk_at "dl"
     refine⟨rfl,rfl,fun _=>?_⟩
     walk_at "r"
     refine r6 ?_
     exact⟨rfl,rfl⟩
   · walk_at "r"
     refine⟨rfl,?_⟩
     walk_at "dl"
     refine⟨rfl,rfl,fun _=>?_⟩
     walk_at "r"
     refine qZ (MQ hb) ?_
     exact⟨rfl,rfl⟩
 rw[List.filter_eq_self.mpr (fun _ _=>rfl),show D.list.map (fun d=>a0X (BU d))=(D.list.map BU).map .str by rw[zD];rfl]
 walk_at "r"
 refine KI (V2 hr hf) ?_
 refine⟨M,zT M,fun d' e=>?_⟩
 cases e
 exact⟨rfl,rfl⟩
end
def NP:List Str:=["_law_book_here", "_law_rows"]
def KC:List Str:=["_law_hand", "_law_deed_here"]
def KD:List (Option Nat):=[none,none]
theorem SX:KC.Nodup:=by decide +kernel
theorem NQ:FnScope NP ["_law_book_here"] (AA EM):=⟨rfl,rfl,rfl,by decide +kernel,rfl,by decide +kernel,by decide +kernel⟩
section
local macro_rules | `(tactic| walk_at "cs")=>`(tactic| first | exact @FY _ _ KC KD (AA EM) NP (by decide +kernel) (by decide +kernel) rfl rfl)
local macro_rules | `(tactic| walk_at "x")=>`(tactic| first | ((with_reducible show PE _ (.Call (.Attribute _ (a0Q "join") _) ..) _);exact @kBm _ K _ _ _ _ _ _ _ _ _ _ _ rfl a1Q a6Z a6X (@UB _ K rfl) (by walk_at "e") (by walk_at "a") (by rfl) (by rfl) (by rfl) (by rfl) (by rfl)) | ((with_reducible show PG _ (.Tuple ..) _);exact @MK _ K _ _ _ _ (2) rfl rfl (by walk_at "j") (by rfl) (by rfl)))
theorem XD {f:Addr}{fd:FuncData}(F:Fun K "_law_text" "_law_text" EM f fd) (h__law_deed_text:Has P w K mg base "_law_deed_text" 1 ["_law_deed_here"] CY) (h__law_world_text:Has P w K mg base "_law_world_text" 1 ["_law_world"] JG):FnOk P w K mg base CX0 2 f fd ["_law_book_here"] (spD K 1 DD):=by
 refine fnD F NQ fun cdv A outer s H E hr=>?_
 have hu:=hr.units
 have nd:=NQ.nd
 have n0:=SX
 refine⟨_,by walk_at "b2", ?_⟩
 clear nd n0
 rintro xs M hl ⟨w,ls,rfl,h⟩
 have ht:=h.t
 have hlw:=(SA ht.good ht.few).2
 rw[a0K] at hlw
 have hln:=ht.len
 walk_at "r"
 rw[show AV w ls = .tuple [wD w,BL ls] from rfl]
 walk_at "r"
 refine CA ?_
 walk_at "r"
 refine AB (ds:=[wD w,BL ls]) (d:=wD w) rfl ?_
 walk_at "r"
 refine AF ⟨w,rfl,ht.good,ht.few⟩ ?_
 rw[e8]
 refine BC (zN (a7V (b5X WR) hlw) (by decide)) ?_
 walk_at "r"
 refine CO ?_
 walk_at "dl"
 refine⟨BI,?_⟩
 walk_at "r"
 walk_at "r"
 refine AE (JA (B5 (B5 HP))) (by simp[KD]) ?_
 refine CI ?_
 walk_at "r"
 refine AB (ds:=[wD w,BL ls]) (d:=BL ls) rfl ?_
 refine⟨_,rfl,?_⟩
 refine⟨by rw[zX];exact zQ hln (by decide),fun _=>true,lnF,?_,?_⟩
 · intro d hd M'
   obtain⟨l,hl,rfl⟩:=zL.mp hd
   obtain⟨a1,a2,a3⟩:=ht.line l hl
   have l1:l.1.length<=8:=a1.2.1
   have l2:=(N3 a2 a3).2
   rw[a0K] at l2
   have l3:(a0Q ": ").length=2:=by decide +kernel
   have l4:(l.1++a0Q ": ").length<=10:=by rw[CU,l3];omega
   rw[show BS l = .tuple [.str l.1,l.2.d] from rfl]
   walk_at "r"
   refine⟨rfl,?_⟩
   walk_at "dl"
   refine⟨rfl,rfl,fun _=>?_⟩
   walk_at "r"
   refine BC (zN (show _<=20 by rw[l3];omega) (by decide)) ?_
   walk_at "r"
   refine AF ⟨l.2,rfl,a2,a3⟩ ?_
   rw[WH]
   refine BC (zN (a7V l4 l2) (by decide)) ?_
   exact⟨congrArg DS.d (SE l).symm,rfl⟩
 rw[fQ]
 walk_at "r"
 refine JB (by rw[zX,zX];exact zN (show 1+ls.length<=50 by omega) (by decide)) ?_
 rw[show [a0X (a0Q "start " ++ wsS w)]++(ls.map lnS).map a0X=(DX w ls).map .str from rfl]
 walk_at "r"
 refine KI (fJ ht) ?_
 exact SD h (zT M)
end
def xD:List Str:=["_law_script", "_law_book_here", "_law_size", "_law_some", "_law_text_here", "_law_found"]
theorem nS:FnScope xD ["_law_script"] (AA fR):=⟨rfl,rfl,rfl,by decide +kernel,rfl,by decide +kernel,by decide +kernel⟩
theorem xE {f:Addr}{fd:FuncData}(F:Fun K "law" "law" fR f fd) (n_isinstance:mg "isinstance"=none) (n_len:mg "len"=none) (n_sum:mg "sum"=none) (n_tuple:mg "tuple"=none) (h__law_book:Has P w K mg base "_law_book" 3 ["_law_head", "_law_cells"] JW) (h__law_text:Has P w K mg base "_law_text" 2 ["_law_book_here"] DD) (h_read_book:Has P w K mg base "read_book" 10 ["text"] OB) (h_show_book:Has P w K mg base "show_book" 5 ["book"] DD):FnOk P w K mg base CX0 11 f fd ["_law_script"] (spD K 1 Z1):=by
 refine fnD F nS fun cdv A outer s H E hr=>?_
 have hu:=hr.units
 have nd:=nS.nd
 refine⟨_,by walk_at "b2", ?_⟩
 clear nd
 rintro xs M hl ⟨ns,rfl,hns,hbits⟩
 have one:xJ (ns.take 1).sum<=2 ^ 21:=by
   match ns,hbits with
   | [],_=>decide
   | a::r,hb=>simp only[List.take_succ_cons,List.take_zero,c2W,List.sum_nil,Int.add_zero];exact zN (hb a (by simp)) (by decide)
 walk_at "r"
 refine CV ?_
 rw[show EA (ns.map b7X) none (some 1)=(ns.take 1).map .int from(VS _ 1).trans (by rw[b8Q])]
 walk_at "r"
 refine wU ?_
 walk_at "r"
 refine CV ?_
 rw[show EA (ns.map b7X) (some 1) (some 41)=((ns.take 41).drop 1).map .int from(VT _ 1 41).trans (by rw[b8X,b8Q])]
 walk_at "r"
 have hcl:((ns.take 41).drop 1).length<=40:=by rw[a6K,a2Z];omega
 refine ZQ one (fun c hc=>zN (hbits c (a7J (List.mem_of_mem_drop hc))) (by decide)) hcl fun w ls hB=>?_
 walk_at "r"
 refine LP ?_
 refine CC ?_
 refine CA ?_
 walk_at "r"
 refine AB (ds:=[wD w,BL ls]) (d:=BL ls) rfl ?_
 walk_at "r"
 refine E7 ?_
 rw[zX]
 walk_at "r"
 refine AB (ds:=[wD w,BL ls]) (d:=BL ls) rfl ?_
 walk_at "r"
 refine E7 ?_
 rw[zX]
 walk_at "r"
 refine⟨fun k ρ1 M1=>M1=M/\∃x1 x2 x3 x4:Option DS,ρ1=[some (.d (.list (ns.map .int))),some (.d (AV w ls)),x1,x2,x3,x4],⟨rfl,_,_,_,_,rfl⟩,?_,?_⟩
 · rintro k d ρ1 M1 hd ⟨rfl,x1,x2,x3,x4,rfl⟩
   obtain⟨n,rfl⟩:∃n:Nat,d = .int n:=by
     rcases yX.mp (yN hd) with rfl | q
     · exact⟨_,rfl⟩
     · rcases yX.mp q with rfl | q
       · exact⟨0,rfl⟩
       · rw[List.mem_singleton.mp q];exact⟨ls.length/2,rfl⟩
   have hT:=hB.take n
   have ht:=hT.t
   have sB:zH (AV w (ls.take n))=true:=iP (fun t h=>(hT.good.2 t h).1) hT.cb.good
   have sS:zH (.str (bkS w (ls.take n)))=true:=HV (ZP ht).1
   walk_at "r"
   refine AB (ds:=[wD w,BL ls]) (d:=wD w) rfl ?_
   walk_at "r"
   refine AB (ds:=[wD w,BL ls]) (d:=BL ls) rfl ?_
   walk_at "r"
   refine JC ?_
   rw[VS,← b8Q]
   walk_at "r"
   refine JX hT ?_
   walk_at "r"
   refine JX hT ?_
   walk_at "r"
   refine AQ sS sS ?_
   rw[if_pos rfl,S5 sS]
   walk_at "r"
   refine AF ⟨w,ls.take n,rfl,hT⟩ ?_
   rw[fN ht]
   rw[show AV w (ls.take n) = .tuple [wD w,.tuple ((ls.take n).map BS)] from rfl]
   walk_at "r"
   rw[show a3J [wD w,.tuple ((ls.take n).map BS)]=AV w (ls.take n) from rfl]
   refine AQ sB sB ?_
   rw[if_pos rfl,S5 sB]
   walk_at "r"
   refine JX hT ?_
   walk_at "r"
   refine AQ sS sS ?_
   rw[if_pos rfl,S5 sS]
   walk_at "r"
   exact⟨rfl,_,_,_,_,rfl⟩
 · rintro ρ1 M1 ⟨rfl,x1,x2,x3,x4,rfl⟩
   walk_at "r"
   exact⟨_,zT _,rfl⟩
end
end DL
namespace DL
open PySem PySem.Spec L2
local macro_rules | `(tactic| walk_at "b1")=>`(tactic| exact fun _ _ _ _ _ _ us hl=>match us,hl with | [_],_=>rfl)
local macro_rules | `(tactic| walk_at "b2")=>`(tactic| exact fun _ _ _ _ _ _ us hl=>match us,hl with | [_,_],_=>rfl)
local macro_rules | `(tactic| walk_at "b3")=>`(tactic| exact fun _ _ _ _ _ _ us hl=>match us,hl with | [_,_,_],_=>rfl)
local macro_rules | `(tactic| walk_at "b4")=>`(tactic| exact fun _ _ _ _ _ _ us hl=>match us,hl with | [_,_,_,_],_=>rfl)
theorem xF {l:PySem.W.OpenLaw}{w:World}{K:Frg}{h:Heap}{mg:Str->Option Value}{fa:Addr}{t_BEHIND_HAND:Tok}{t_BETWEEN:Tok}{t_FIGURES:Tok}{a_FORMS:Addr}{ep_FORMS:Nat}{tk_FORMS_0 tv_FORMS_0:Tok}{tk_FORMS_1 tv_FORMS_1:Tok}{tk_FORMS_2 tv_FORMS_2:Tok}{tk_FORMS_3 tv_FORMS_3:Tok}{tk_FORMS_4 tv_FORMS_4:Tok}{tk_FORMS_5 tv_FORMS_5:Tok}{tk_FORMS_6 tv_FORMS_6:Tok}{t_GROUP:Tok}{t_LAST_PLACE:Tok}{t_LETTERS:Tok}{t_LONGEST_NAME:Tok}{t_NO_THINGS:Tok}{t_START:Tok}
   (X:K.In h) (G:h.Ns mainGlobals mg) (hfa:mg "law"=some (.ref fa))
   (b0:FnIn K "is_whole" IK)
   (b1:FnIn K "is_name" HJ)
   (b2:FnIn K "is_within" GE)
   (b3:FnIn K "is_place" IL)
   (b4:FnIn K "rises" N4)
   (b5:FnIn K "form_of" KQ)
   (b6:FnIn K "fits" WU)
   (b7:FnIn K "names_in" IM)
   (b8:FnIn K "is_deed" HK)
   (b9:FnIn K "made_by" KR)
   (b10:FnIn K "is_thing" IN)
   (b11:FnIn K "is_world" FZ)
   (b12:FnIn K "thing_of" IO)
   (b13:FnIn K "by_names" G0)
   (b14:FnIn K "rising_by_names" BG)
   (b15:FnIn K "add_count" GF)
   (b16:FnIn K "refuse_undoable" C8)
   (b17:FnIn K "change" N5)
   (b18:FnIn K "done" WV)
   (b19:FnIn K "deeds_of" G1)
   (b20:FnIn K "makers" HL)
   (b21:FnIn K "told_on" KS)
   (b22:FnIn K "checked_book" DH)
   (b23:FnIn K "show_whole" DJ)
   (b24:FnIn K "is_row_of_figures" B8)
   (b25:FnIn K "read_whole" FC)
   (b26:FnIn K "show_deed" EH)
   (b27:FnIn K "read_deed" EI)
   (b28:FnIn K "show_thing" FD)
   (b29:FnIn K "show_world" DK)
   (b30:FnIn K "read_thing" FE)
   (b31:FnIn K "read_world" FF)
   (b32:FnIn K "show_book" EJ)
   (b33:FnIn K "read_start" FG)
   (b34:FnIn K "read_line" GG)
   (b35:FnIn K "read_book" EK)
   (b36:FnIn K "_law_mixed" FH)
   (b37:FnIn K "_law_take" GH)
   (b38:FnIn K "_law_names" CJ)
   (b39:FnIn K "_law_deed" EL)
   (b40:FnIn K "_law_after" CK)
   (b41:FnIn K "_law_start" DN)
   (b42:FnIn K "_law_book" GI)
   (b43:FnIn K "_law_world_text" BH)
   (b44:FnIn K "_law_deed_text" BM)
   (b45:FnIn K "_law_text" EM)
   (b46:FnIn K "law" fR)
   (z_all:a1W K mainGlobals "all"=some none)
   (z_bool:a1W K mainGlobals "bool"=some none)
   (z_divmod:a1W K mainGlobals "divmod"=some none)
   (z_enumerate:a1W K mainGlobals "enumerate"=some none)
   (z_int:a1W K mainGlobals "int"=some none)
   (z_isinstance:a1W K mainGlobals "isinstance"=some none)
   (z_len:a1W K mainGlobals "len"=some none)
   (z_range:a1W K mainGlobals "range"=some none)
   (z_reversed:a1W K mainGlobals "reversed"=some none)
   (z_sorted:a1W K mainGlobals "sorted"=some none)
   (z_str:a1W K mainGlobals "str"=some none)
   (z_sum:a1W K mainGlobals "sum"=some none)
   (z_tuple:a1W K mainGlobals "tuple"=some none)
   (z_zip:a1W K mainGlobals "zip"=some none)
   (y_BEHIND_HAND:a1W K mainGlobals "BEHIND_HAND"=some (some (.str ": " t_BEHIND_HAND)))
   (y_BETWEEN:a1W K mainGlobals "BETWEEN"=some (some (.str ", " t_BETWEEN)))
   (y_FIGURES:a1W K mainGlobals "FIGURES"=some (some (.str "0123456789" t_FIGURES)))
   (y_FORMS:a1W K mainGlobals "FORMS"=some (some (.ref a_FORMS)))
   (x_FORMS:K.lookup a_FORMS=some { cls:=.type "dict", data:=.dict #[{ hash:=b0V w.params (a0Q "put"),key:=.str (a0Q "put") tk_FORMS_0,val:=.str (a0Q "npk") tv_FORMS_0 },{ hash:=b0V w.params (a0Q "take"),key:=.str (a0Q "take") tk_FORMS_1,val:=.str (a0Q "n") tv_FORMS_1 },{ hash:=b0V w.params (a0Q "move"),key:=.str (a0Q "move") tk_FORMS_2,val:=.str (a0Q "np") tv_FORMS_2 },{ hash:=b0V w.params (a0Q "count"),key:=.str (a0Q "count") tk_FORMS_3,val:=.str (a0Q "nk") tv_FORMS_3 },{ hash:=b0V w.params (a0Q "name"),key:=.str (a0Q "name") tk_FORMS_4,val:=.str (a0Q "nn") tv_FORMS_4 },{ hash:=b0V w.params (a0Q "split"),key:=.str (a0Q "split") tk_FORMS_5,val:=.str (a0Q "nnpk") tv_FORMS_5 },{ hash:=b0V w.params (a0Q "join"),key:=.str (a0Q "join") tk_FORMS_6,val:=.str (a0Q "nn") tv_FORMS_6 }] ep_FORMS })
   (s_FORMS:(a_FORMS==sysModules)=false)
   (y_GROUP:a1W K mainGlobals "GROUP"=some (some (.int 1000000000000000000 t_GROUP)))
   (y_LAST_PLACE:a1W K mainGlobals "LAST_PLACE"=some (some (.int 999 t_LAST_PLACE)))
   (y_LETTERS:a1W K mainGlobals "LETTERS"=some (some (.str "abcdefghijklmnopqrstuvwxyz" t_LETTERS)))
   (y_LONGEST_NAME:a1W K mainGlobals "LONGEST_NAME"=some (some (.int 8 t_LONGEST_NAME)))
   (y_NO_THINGS:a1W K mainGlobals "NO_THINGS"=some (some (.str "-" t_NO_THINGS)))
   (y_START:a1W K mainGlobals "START"=some (some (.str "start " t_START))) :
   ∃fd:FuncData,(∀(s:Shared) (v:Value),BindsTo s fd ⟨[v],[]⟩ [("_law_script", v)])/\∀base:Heap,K.In base->base.Ns mainGlobals mg->FnOk l.prog w K mg base CX0 11 fa fd ["_law_script"] (spD K 1 Z1):=by
 obtain⟨f0,d0,A0⟩:=b0.at X G
 obtain⟨f1,d1,A1⟩:=b1.at X G
 obtain⟨f2,d2,A2⟩:=b2.at X G
 obtain⟨f3,d3,A3⟩:=b3.at X G
 obtain⟨f4,d4,A4⟩:=b4.at X G
 obtain⟨f5,d5,A5⟩:=b5.at X G
 obtain⟨f6,d6,A6⟩:=b6.at X G
 obtain⟨f7,d7,A7⟩:=b7.at X G
 obtain⟨f8,d8,A8⟩:=b8.at X G
 obtain⟨f9,d9,A9⟩:=b9.at X G
 obtain⟨f10,d10,A10⟩:=b10.at X G
 obtain⟨f11,d11,A11⟩:=b11.at X G
 obtain⟨f12,d12,A12⟩:=b12.at X G
 obtain⟨f13,d13,A13⟩:=b13.at X G
 obtain⟨f14,d14,A14⟩:=b14.at X G
 obtain⟨f15,d15,A15⟩:=b15.at X G
 obtain⟨f16,d16,A16⟩:=b16.at X G
 obtain⟨f17,d17,A17⟩:=b17.at X G
 obtain⟨f18,d18,A18⟩:=b18.at X G
 obtain⟨f19,d19,A19⟩:=b19.at X G
 obtain⟨f20,d20,A20⟩:=b20.at X G
 obtain⟨f21,d21,A21⟩:=b21.at X G
 obtain⟨f22,d22,A22⟩:=b22.at X G
 obtain⟨f23,d23,A23⟩:=b23.at X G
 obtain⟨f24,d24,A24⟩:=b24.at X G
 obtain⟨f25,d25,A25⟩:=b25.at X G
 obtain⟨f26,d26,A26⟩:=b26.at X G
 obtain⟨f27,d27,A27⟩:=b27.at X G
 obtain⟨f28,d28,A28⟩:=b28.at X G
 obtain⟨f29,d29,A29⟩:=b29.at X G
 obtain⟨f30,d30,A30⟩:=b30.at X G
 obtain⟨f31,d31,A31⟩:=b31.at X G
 obtain⟨f32,d32,A32⟩:=b32.at X G
 obtain⟨f33,d33,A33⟩:=b33.at X G
 obtain⟨f34,d34,A34⟩:=b34.at X G
 obtain⟨f35,d35,A35⟩:=b35.at X G
 obtain⟨f36,d36,A36⟩:=b36.at X G
 obtain⟨f37,d37,A37⟩:=b37.at X G
 obtain⟨f38,d38,A38⟩:=b38.at X G
 obtain⟨f39,d39,A39⟩:=b39.at X G
 obtain⟨f40,d40,A40⟩:=b40.at X G
 obtain⟨f41,d41,A41⟩:=b41.at X G
 obtain⟨f42,d42,A42⟩:=b42.at X G
 obtain⟨f43,d43,A43⟩:=b43.at X G
 obtain⟨f44,d44,A44⟩:=b44.at X G
 obtain⟨f45,d45,A45⟩:=b45.at X G
 obtain⟨f46,d46,A46⟩:=b46.at X G
 have e:=hfa.symm.trans A46.mg_
 cases e
 have n_all:=a2X X G z_all
 have n_bool:=a2X X G z_bool
 have n_divmod:=a2X X G z_divmod
 have n_enumerate:=a2X X G z_enumerate
 have n_int:=a2X X G z_int
 have n_isinstance:=a2X X G z_isinstance
 have n_len:=a2X X G z_len
 have n_range:=a2X X G z_range
 have n_reversed:=a2X X G z_reversed
 have n_sorted:=a2X X G z_sorted
 have n_str:=a2X X G z_str
 have n_sum:=a2X X G z_sum
 have n_tuple:=a2X X G z_tuple
 have n_zip:=a2X X G z_zip
 have g_BEHIND_HAND:∃t,mg "BEHIND_HAND"=some (.str ": " t):=⟨_,a6V X G y_BEHIND_HAND⟩
 have g_BETWEEN:∃t,mg "BETWEEN"=some (.str ", " t):=⟨_,a6V X G y_BETWEEN⟩
 have g_FIGURES:∃t,mg "FIGURES"=some (.str "0123456789" t):=⟨_,a6V X G y_FIGURES⟩
 have g_FORMS:∃a,mg "FORMS"=some (.ref a)/\GDict w K a F0:=⟨_,a6V X G y_FORMS,s_FORMS,by decide +kernel,_,_,x_FORMS,rfl,⟨_,rfl⟩,⟨_,rfl⟩,rfl,⟨_,rfl⟩,⟨_,rfl⟩,rfl,⟨_,rfl⟩,⟨_,rfl⟩,rfl,⟨_,rfl⟩,⟨_,rfl⟩,rfl,⟨_,rfl⟩,⟨_,rfl⟩,rfl,⟨_,rfl⟩,⟨_,rfl⟩,rfl,⟨_,rfl⟩,⟨_,rfl⟩,trivial⟩
 have g_GROUP:∃t,mg "GROUP"=some (.int 1000000000000000000 t):=⟨_,a6V X G y_GROUP⟩
 have g_LAST_PLACE:∃t,mg "LAST_PLACE"=some (.int 999 t):=⟨_,a6V X G y_LAST_PLACE⟩
 have g_LETTERS:∃t,mg "LETTERS"=some (.str "abcdefghijklmnopqrstuvwxyz" t):=⟨_,a6V X G y_LETTERS⟩
 have g_LONGEST_NAME:∃t,mg "LONGEST_NAME"=some (.int 8 t):=⟨_,a6V X G y_LONGEST_NAME⟩
 have g_NO_THINGS:∃t,mg "NO_THINGS"=some (.str "-" t):=⟨_,a6V X G y_NO_THINGS⟩
 have g_START:∃t,mg "START"=some (.str "start " t):=⟨_,a6V X G y_START⟩
 refine⟨d46,fun s v=>?_,fun base _ _=>?_⟩
 · obtain⟨oc,od,kV,doc,pm,an,cdv,ct,osl,e,_,_⟩:=A46.fn.ex
   subst e
   exact .of_eq rfl
 have h_is_whole:Has l.prog w K mg base "is_whole" 1 ["thing"] FS:=A0.has (ZS A0.fn n_bool n_int n_isinstance) (by walk_at "b1")
 have h_is_name:Has l.prog w K mg base "is_name" 1 ["thing"] GW:=A1.has (cL A1.fn n_all n_isinstance n_len n_str g_LETTERS g_LONGEST_NAME) (by walk_at "b1")
 have h_is_within:Has l.prog w K mg base "is_within" 2 ["thing", "low", "high"] EB:=A2.has (WX A2.fn h_is_whole) (by walk_at "b3")
 have h_is_place:Has l.prog w K mg base "is_place" 3 ["thing"] HQ:=A3.has (ZU A3.fn g_LAST_PLACE h_is_within) (by walk_at "b1")
 have h_rises:Has l.prog w K mg base "rises" 1 ["things"] VU:=A4.has (nR A4.fn n_all n_zip) (by walk_at "b1")
 have h_form_of:Has l.prog w K mg base "form_of" 1 ["word"] HA:=A5.has (cN A5.fn n_isinstance n_str g_FORMS) (by walk_at "b1")
 have h_fits:Has l.prog w K mg base "fits" 4 ["sign", "part"] bZ:=A6.has (rP A6.fn h_is_name h_is_place h_is_whole) (by walk_at "b2")
 have h_names_in:Has l.prog w K mg base "names_in" 2 ["deed"] IA:=A7.has (ZW A7.fn h_form_of) (by walk_at "b1")
 have h_is_deed:Has l.prog w K mg base "is_deed" 5 ["thing"] FM:=A8.has (cO A8.fn n_all n_isinstance n_len n_tuple n_zip h_fits h_form_of h_names_in) (by walk_at "b1")
 have h_made_by:Has l.prog w K mg base "made_by" 1 ["deed"] HB:=A9.has (cQ A9.fn ) (by walk_at "b1")
 have h_is_thing:Has l.prog w K mg base "is_thing" 4 ["thing"] HU:=A10.has (a6 A10.fn n_isinstance n_len n_tuple h_is_name h_is_place h_is_whole) (by walk_at "b1")
 have h_is_world:Has l.prog w K mg base "is_world" 5 ["thing"] LQ:=A11.has (a7 A11.fn n_all n_isinstance n_tuple h_is_thing h_rises) (by walk_at "b1")
 have h_thing_of:Has l.prog w K mg base "thing_of" 1 ["world", "name"] HG:=A12.has (aD A12.fn ) (by walk_at "b2")
 have h_by_names:Has l.prog w K mg base "by_names" 1 ["world"] FW:=A13.has (a8 A13.fn ) (by walk_at "b1")
 have h_rising_by_names:Has l.prog w K mg base "rising_by_names" 1 ["things"] BE:=A14.has (M0 A14.fn n_sorted n_tuple) (by walk_at "b1")
 have h_add_count:Has l.prog w K mg base "add_count" 1 ["things", "name", "more"] EF:=A15.has (X1 A15.fn ) (by walk_at "b3")
 have h_refuse_undoable:Has l.prog w K mg base "refuse_undoable" 6 ["things", "deed"] BF:=A16.has (M9 A16.fn h_is_deed h_made_by h_names_in) (by walk_at "b2")
 have h_change:Has l.prog w K mg base "change" 2 ["things", "deed"] JJ:=A17.has (iW A17.fn h_add_count) (by walk_at "b2")
 have h_done:Has l.prog w K mg base "done" 7 ["world", "deed"] RS:=A18.has (rR A18.fn h_by_names h_change h_refuse_undoable h_rising_by_names) (by walk_at "b2")
 have h_deeds_of:Has l.prog w K mg base "deeds_of" 1 ["book"] HF:=A19.has (a9 A19.fn n_tuple) (by walk_at "b1")
 have h_makers:Has l.prog w K mg base "makers" 2 ["book"] JR:=A20.has (iX A20.fn n_enumerate h_deeds_of h_made_by) (by walk_at "b1")
 have h_told_on:Has l.prog w K mg base "told_on" 8 ["world", "book", "hand", "deed"] JT:=A21.has (cS A21.fn h_done h_is_deed h_is_name h_made_by h_makers h_thing_of) (by walk_at "b4")
 have h_checked_book:Has l.prog w K mg base "checked_book" 9 ["thing"] HH:=A22.has (PN A22.fn n_enumerate n_isinstance n_len n_tuple h_is_world h_told_on) (by walk_at "b1")
 have h_show_whole0:Has l.prog w K mg base "show_whole" 1 ["number"] GO:=A23.has (SR A23.fn n_reversed n_str g_GROUP) (by walk_at "b1")
 have h_show_whole:Has l.prog w K mg base "show_whole" 2 ["number"] F7:=A23.has (T9 A23.fn n_reversed n_str g_GROUP h_show_whole0) (by walk_at "b1")
 have h_is_row_of_figures:Has l.prog w K mg base "is_row_of_figures" 1 ["text"] CM:=A24.has (K0 A24.fn n_all n_len g_FIGURES) (by walk_at "b1")
 have h_read_whole:Has l.prog w K mg base "read_whole" 2 ["text"] F8:=A25.has (TC A25.fn g_FIGURES h_is_row_of_figures) (by walk_at "b1")
 have h_show_deed:Has l.prog w K mg base "show_deed" 3 ["deed"] CY:=A26.has (X2 A26.fn n_isinstance n_str h_show_whole) (by walk_at "b1")
 have h_read_deed:Has l.prog w K mg base "read_deed" 6 ["text"] O8:=A27.has (X3 A27.fn n_isinstance n_len n_str n_tuple n_zip h_form_of h_is_deed h_read_whole) (by walk_at "b1")
 have h_show_thing:Has l.prog w K mg base "show_thing" 3 ["thing"] HW:=A28.has (TF A28.fn h_show_whole) (by walk_at "b1")
 have h_show_world:Has l.prog w K mg base "show_world" 4 ["world"] HY:=A29.has (TK A29.fn n_len g_BETWEEN g_NO_THINGS h_show_thing) (by walk_at "b1")
 have h_read_thing:Has l.prog w K mg base "read_thing" 5 ["text"] HX:=A30.has (TJ A30.fn h_is_thing h_read_whole) (by walk_at "b1")
 have h_read_world:Has l.prog w K mg base "read_world" 6 ["text"] HZ:=A31.has (TM A31.fn n_enumerate n_isinstance n_len n_str n_tuple g_BETWEEN g_NO_THINGS h_read_thing) (by walk_at "b1")
 have h_show_book:Has l.prog w K mg base "show_book" 5 ["book"] DD:=A32.has (X6 A32.fn g_BEHIND_HAND g_START h_show_deed h_show_world) (by walk_at "b1")
 have h_read_start:Has l.prog w K mg base "read_start" 7 ["row"] LZ:=A33.has (TQ A33.fn n_len g_START h_read_world) (by walk_at "b1")
 have h_read_line:Has l.prog w K mg base "read_line" 7 ["row"] O9:=A34.has (X5 A34.fn g_BEHIND_HAND h_read_deed) (by walk_at "b1")
 have h_read_book:Has l.prog w K mg base "read_book" 10 ["text"] OB:=A35.has (X7 A35.fn n_isinstance n_str n_tuple h_checked_book h_read_line h_read_start) (by walk_at "b1")
 have h__law_mixed:Has l.prog w K mg base "_law_mixed" 1 ["_law_cell"] D6:=A36.has (TV A36.fn ) (by walk_at "b1")
 have h__law_take:Has l.prog w K mg base "_law_take" 1 ["_law_pack", "_law_size"] BN:=A37.has (X9 A37.fn n_divmod) (by walk_at "b2")
 have h__law_names:Has l.prog w K mg base "_law_names" 2 ["_law_pack", "_law_amount"] D7:=A38.has (TR A38.fn n_range h__law_take) (by walk_at "b2")
 have h__law_deed:Has l.prog w K mg base "_law_deed" 2 ["_law_pack", "_law_some", "_law_spare"] JV:=A39.has (XA A39.fn n_int n_len h__law_take) (by walk_at "b3")
 have h__law_after:Has l.prog w K mg base "_law_after" 1 ["_law_deed_here", "_law_some", "_law_spare"] DB:=A40.has (TX A40.fn ) (by walk_at "b3")
 have h__law_start:Has l.prog w K mg base "_law_start" 2 ["_law_pack", "_law_names_here", "_law_amount"] HI:=A41.has (TY A41.fn n_range n_sorted n_tuple h__law_take) (by walk_at "b3")
 have h__law_book:Has l.prog w K mg base "_law_book" 3 ["_law_head", "_law_cells"] JW:=A42.has (XC A42.fn n_tuple h__law_after h__law_deed h__law_mixed h__law_names h__law_start h__law_take) (by walk_at "b2")
 have h__law_world_text:Has l.prog w K mg base "_law_world_text" 1 ["_law_world"] JG:=A43.has (MA A43.fn n_str) (by walk_at "b1")
 have h__law_deed_text:Has l.prog w K mg base "_law_deed_text" 1 ["_law_deed_here"] CY:=A44.has (NO A44.fn n_str) (by walk_at "b1")
 have h__law_text:Has l.prog w K mg base "_law_text" 2 ["_law_book_here"] DD:=A45.has (XD A45.fn h__law_deed_text h__law_world_text) (by walk_at "b1")
 exact xE A46.fn n_isinstance n_len n_sum n_tuple h__law_book h__law_text h_read_book h_show_book
theorem xK {K:Frg}{H:Hp}{a:Addr}{ns:List Int}(hl:ns.length<=63) (hb:∀i∈ns,xJ i<=2 ^ 20) (hS:SqL K H a (ns.map V.int)):spD K 1 Z1 [.ref a] H (fun v _=>v = .bl true) fun _ _ _=>False:=by
 refine⟨[.d (.list (ns.map .int))],fun _=>none,rfl,(fun a o e=>nomatch e),⟨.ref a,[],rfl,?_,rfl⟩,⟨ns,rfl,hl,hb⟩,fun x M' v H' post st oa si=>?_⟩
 · unfold SI DV
   refine⟨a,ns.map V.int,rfl,?_,OR⟩
   rcases hS with h | h
   · exact .inl ⟨fun w=>w rfl,h⟩
   · exact .inr h
 · have e:x = .d (.bool true):=post
   subst e
   exact sN si
theorem A1B {l:PySem.W.OpenLaw}{q:Program}{loose:List Str}{XP:(Str->Option Value)->Heap->Prop}{YP:World->Heap->Prop}{d:DefRec}{K:Params->Frg}(hn:l.most=some 63) (hdf:d.params.defaults=[])
   (hY:∀(w:World) (h:Heap),YP w h->(K w.params).In h)
   (F:∀(w:World) (mg:Str->Option Value) (fa:Addr) (h:Heap),(K w.params).In h->h.Ns mainGlobals mg->mg d.name=some (.ref fa) ->
     ∃fd:FuncData,(∀(s:Shared) (u:Value),BindsTo s fd ⟨[u],[]⟩ [("_law_script", u)])/\∀base:Heap,(K w.params).In base->base.Ns mainGlobals mg->FnOk l.prog w (K w.params) mg base CX0 11 fa fd ["_law_script"] (spD (K w.params) 1 Z1)) :
   PySem.W.WalkO q loose XP YP l.row.toRowW d [] (fun f vs=>PySem.call f vs):=
 L2.l7 (n:=63) (k:=11) (x:= "_law_script") (CX:=fun _=>CX0) (sp:=fun w=>spD (K w.params) 1 Z1) hn (by decide) hdf ⟨rfl,by decide,by decide⟩ hY F (fun _ _ a ns hl hb _ hS=>xK hl hb hS) fun _ _ _ _ _ z=>z
end DL
open PySem PySem.W PyProof.Rows
set_option maxRecDepth 100000 in
set_option maxHeartbeats 0 in
theorem PySem.Challenge.cw_struckdeeds_k75_books_as_texts_holds : PySem.Challenge.rw_struckdeeds_k75_books_as_texts.Holds := by
 w_on
 refine PySem.W.holds_law DL.hS fun said=>?_
 refine PySem.W.holds_open (q:=DL.hV) (loose:=[a0Q "FORMS", a0Q "GROUP"]) (Xt:=(fun s=>PySem.W.xlAt DL.hV [(a0Q "GROUP", b3V (1000000000000000000))] s&&PySem.W.recOk (b5V (b3K (b6Q PySem.Challenge.rw_struckdeeds_k75_books_as_texts))) s)) (XP:=PySem.W.XL DL.hV [(a0Q "GROUP", b3V (1000000000000000000))]) (Yf:=b9Z (a7Q DL.hK DL.hA DL.hE)) (Ya:=b9X (a7Q DL.hK DL.hA DL.hE)) (YP:=PySem.W.Hook.says (a7Q DL.hK DL.hA DL.hE)) (N:=6242) DL.hL (PySem.W.Hook.of (a7Q DL.hK DL.hA DL.hE)) (PySem.W.Hook.keeps (a7Q DL.hK DL.hA DL.hE)) (fun s e=>PySem.W.xl_of s (Bool.and_eq_true_iff.mp e).1) PySem.W.XL.keeps (by rfl) (by rfl) (by rfl) (fun s e=>PySem.W.recFacts_of (Bool.and_eq_true_iff.mp e).2) rfl said (by decide +kernel) ⟨rfl,rfl,rfl,rfl,rfl,by decide +kernel⟩ ?hw ?hc
 (case hw=>w_witness2)
 k_fill
 refine DL.A1B (l:=PySem.Challenge.rw_struckdeeds_k75_books_as_texts) rfl rfl (fun w h Y=>PySem.W.kIn_of Y) ?F
 case F=>
   intro w mg fa h KX G hmg
   refine' DL.xF KX G hmg ?b0 ?b1 ?b2 ?b3 ?b4 ?b5 ?b6 ?b7 ?b8 ?b9 ?b10 ?b11 ?b12 ?b13 ?b14 ?b15 ?b16 ?b17 ?b18 ?b19 ?b20 ?b21 ?b22 ?b23 ?b24 ?b25 ?b26 ?b27 ?b28 ?b29 ?b30 ?b31 ?b32 ?b33 ?b34 ?b35 ?b36 ?b37 ?b38 ?b39 ?b40 ?b41 ?b42 ?b43 ?b44 ?b45 ?b46 ?z_all ?z_bool ?z_divmod ?z_enumerate ?z_int ?z_isinstance ?z_len ?z_range ?z_reversed ?z_sorted ?z_str ?z_sum ?z_tuple ?z_zip ?y_BEHIND_HAND ?y_BETWEEN ?y_FIGURES ?y_FORMS ?x_FORMS ?s_FORMS ?y_GROUP ?y_LAST_PLACE ?y_LETTERS ?y_LONGEST_NAME ?y_NO_THINGS ?y_START
   all_goals (first | (refine' DL.rN ?fa ?fl ?fc ?fk;(case fa=>k_is);(case fl=>k_is);(case fc=>k_is);(case fk=>k_is)) | skip)
   (case z_all=>k_is)
   (case z_bool=>k_is)
   (case z_divmod=>k_is)
   (case z_enumerate=>k_is)
   (case z_int=>k_is)
   (case z_isinstance=>k_is)
   (case z_len=>k_is)
   (case z_range=>k_is)
   (case z_reversed=>k_is)
   (case z_sorted=>k_is)
   (case z_str=>k_is)
   (case z_sum=>k_is)
   (case z_tuple=>k_is)
   (case z_zip=>k_is)
   (case y_BEHIND_HAND=>k_is)
   (case y_BETWEEN=>k_is)
   (case y_FIGURES=>k_is)
   (case y_FORMS=>k_is)
   (case x_FORMS=>k_is)
   (case s_FORMS=>decide)
   (case y_GROUP=>k_is)
   (case y_LAST_PLACE=>k_is)
   (case y_LETTERS=>k_is)
   (case y_LONGEST_NAME=>k_is)
   (case y_NO_THINGS=>k_is)
   (case y_START=>k_is)
#print axioms PySem.Challenge.cw_struckdeeds_k75_books_as_texts_holds
