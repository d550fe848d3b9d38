import PyProof.Rows.All
import Wide.All
import OpenK.AllK
import Wide.FinOn
import Lean
import PyProof.EqAt
import PyProof.EqKinds
import PyProof.TupleCall
import KE.KRevIter
import PyProof.P3In
import PyProof.SumAnyB
import PyProof.NeKinds
import KE.KEqDict
import PyProof.ListRange
import PyProof.TupleOfSeq
import PyProof.Draws
import KE.KIsAll
import PyProof.WalksS
import PyProof.CollectWalk
import PyProof.SetRoads
import PyProof.Rows.SetFrom
import PyProof.RulesAssignMore
import PySem.Challenge.RW_struckdeeds_k55_whole_the_least_that_goe
set_option Elab.async false
set_option linter.all false
set_option maxRecDepth 100000
set_option compiler.extract_closed false
set_option maxHeartbeats 4000000
open PySem.Str renaming ofString → a0Q
open PySem.PyData renaming eqv → a0X, str → a0K, int → a4W, depthAll → a6J, keyHash → a9K, depth → b1J, bool → b5J, strOk → b7X, canLayAll0 → b8J
open PySem.Value renaming ref → a0Z, none → a2V, int → b5V, str → c1Q
open List renaming length_take → a0J, getElem?_eq_none → a0V, range → a1Q, mem_cons_self → a1W, lookup_cons → a2J, append_nil → a2W, mem_singleton → a3Q, drop_eq_nil_of_le → a3X, filter_sublist → a3K, pairwise_map → a3V, map_nil → a4J, take_add_one → a5Q, replicate → a5Z, take_length → a5K, length_drop → a5W, any_eq_true → a5V, filterMap_cons → a6K, filter_cons → a7X, zip_cons_cons → a7K, pairwise_cons → a7W, map_take → a7V, getElem?_zip_eq_some → a8Z, mem_of_mem_take → a8K, find?_cons → a9Q, map_id → a9Z, any_cons → a9J, take_of_length_le → a9W, length_replicate → b0J, getElem_mem → b1K, all_eq_true → b1W, replicate_succ → b2Q, length → b2X, getElem?_take_of_lt → b2K, length_nil → b2W, filter_congr → b3V, take_eq_take_iff → b4J, mem_of_mem_drop → b5Q, getElem?_set_ne → b5X, getElem?_of_mem → b5Z, map_drop → b5W, of_mem_zip → b6Z, foldl_cons → b6J, perm_ext_iff_of_nodup → b7J, length_zipIdx → b8Q, pairwise_iff_getElem → b8K, nodup_append → b9J, foldl_append → b9K, ext_getElem? → b9W, eq_of_mem_replicate → b9V, append_assoc → c0Q, any_eq_false → c0X, getElem?_cons_succ → c0W
open Bool renaming and_eq_true → a0W, eq_iff_iff → a3Z, or_eq_true → b6K, false_eq_true → b8X
open PySem.Txt renaming slice → a1X
open Sum renaming inr → a1Z, inl → a4X
open Nat renaming add_le_add_left → a1J, min_eq_left → a4Z, le_add_right → a6X, ne_of_gt → a8Q, lt_succ_of_lt → b0V, add_le_add_right → b1X, add_sub_cancel_left → b3Z, lt_trichotomy → b4Q, le_succ → b4X, min_eq_right → b4V
open PySem.W renaming mg_none_of → a1K, nsIn → a2Q, kia_one → a2Z, boot_heap → a4K, kHook → a6Q, topRun → a6Z, segRunT → a8J, fnOf → a8W, piecesOf → a9X, segRun_of → b0X, restOf → b0K, keepIn → b0W, piece_app → b2V, boot_drawn → b6X, codeIn → b6W, boot_toks → b7K, mg_of → b8W
open List.Sublist renaming refl → a1V
open Option renaming some → a2X, isSome_map → b3W, none → b9Z
open PySem.Builtin.SmallTypes renaming nextOf → a2K, ownedTupleIsFree → a5X, ownedTupleHandOut → b7Z
open Array renaming length_toList → a3J, getElem?_toList → a7Z, getD_eq_getD_getElem? → b6Q, getElem?_eq_getElem → b8Z, getElem?_eq_none → c0V
open PySem.Builtin.Str renaming strSliceIndices → a3W, occurrences → a5J
open Int renaming toNat_natCast → a4Q, natCast_nonneg → b3J
open PySem renaming mem_of_lookup → a4V
open PySem.NameKind renaming free → a6W
open PyProof.Rows renaming slot_tuple_getitem → a6V, boot_list → a8V, boot_sorted → b5K
open True renaming intro → a7Q
open PySem.Obj renaming mapSeq → a7J
open PySem.Heap renaming size_push → a8X
open PySem.F renaming slot_dict_get → a9V, slot_tuple_iterator_next → b1Z, args_tuple_add_2 → b7W, plainAttrs_dict → b8V, entry_tuple_add → b9Q, slot_tuple_add → c0Z, entry_dict_get → c0J
open PySem.Builtin.Slice renaming slicePlaces → b0Q, sliceAdjust → b4K
open PySem.Builtin.Tuple renaming tupleExact → b0Z
open PySem.W.OpenRow renaming toRowW → b1Q
open ForInStep renaming yield → b1V
open False renaming elim → b2Z
open PySem.Spec renaming ltCps → b2J
open PySem.W.RowW renaming records → b3Q
open PySem.W.OpenLaw renaming row → b3X
open PySem.Calls renaming callWith_builtin → b3K, evalArgs_plain → b4W, call_function_entry → b7V, spliced_nil → b9X
open Ne renaming symm → b4Z
open PySem.W.Hook renaming val → b6V, obs → b7Q
open PySem.Heap.SameBut renaming update → c0K
open PySem renaming wpAny_bind → zZ, wpAny_pure → zY, wpAny_newObj_type → xM
open List renaming length_map → zX, getElem?_eq_getElem → zV, mem_map → zL, size_toArray → zJ, map_cons → zI, getElem?_map → zF, map_map → zD, mem_append_right → zB, mem_append_left → zA, length_append → yY, mem_cons → yX, mem_append → yW, mem_cons_of_mem → yV, getD_eq_getElem?_getD → yU, getElem?_eq_some_iff → yT, length_cons → yR, getElem?_append_left → yQ, getElem?_append_right → yP, mem_of_getElem? → yN, map_congr_left → yM, mem_filter → yL, length_filter_le → yJ, getElem?_range → yA, length_range → xZ, not_mem_nil → xX, nodup_cons → xV, filter_map → xU, map_append → xI
open PySem.Heap renaming get?_push_of_some → zW, lt_size → zM, get?_push_size → yZ
open Nat renaming le_refl → zR, lt_of_le_of_lt → zQ, lt_of_lt_of_le → zP, le_trans → zN, ne_of_lt → zC, lt_irrefl → yF, le_of_ble_eq_true → yD, zero_le → xT, le_of_lt → xR, lt_trans → xQ
open PySem.SeqAt renaming shaped → zH, canLay_of_shaped → zG
open Option renaming isSome_iff_exists → xY
open PySem.Calls renaming spliced_cons → xP
open PySem.Builtin.Int renaming intBits → xJ
open PyProof.Rows renaming callWith_type1 → xH, sortedS → xG
abbrev sT (n:Nat):PySem.Stmt:=PySem.Challenge.pw_struckdeeds_k55_whole_the_least_that_goe.main.body.getD n (.Pass ⟨0,0,0,0⟩)
abbrev Frg:=PySem.W.Frag
theorem nft:¬(false=true):=Bool.false_ne_true
namespace L2
open PySem PySem.Spec PyProof.Rows
abbrev Key:=Sum Int Str
def JM:Key->Value->Bool
 | .inl k,v=>Value.isInt k v
 | .inr x,v=>Value.isStrOf x v
def xE (w:World):Key->Int
 | .inl k=>hashInt k
 | .inr x=>hashStr w x
theorem AS:∀{k:Key}{v:Value},JM k v=true->(∃i t,k=a4X i/\v=b5V i t)∨(∃x t,k=a1Z x/\v=c1Q x t)
 | .inl i,v,h=>by
   obtain⟨t,e⟩:=Value.isInt_shape (k:=i) (v:=v) h
   exact .inl ⟨i,t,rfl,e⟩
 | .inr x,v,h=>by
   obtain⟨t,e⟩:=Value.isStrOf_shape (x:=x) (v:=v) h
   exact .inr ⟨x,t,rfl,e⟩
theorem fL (i:Int) (t:Tok):JM (.inl i) (.int i t)=true:=by simp[JM,Value.isInt]
theorem fM (x:Str) (t:Tok):JM (.inr x) (.str x t)=true:=by simp[JM,Value.isStrOf]
theorem tS (a b:Int):decide ((a4X a:Key)=a4X b)=(a==b):=by
 by_cases e:a=b
 · subst e;simp
 · have h:¬(a4X a:Key)=a4X b:=fun q=>e (Sum.inl.inj q)
   rw[decide_eq_false h]
   exact(beq_eq_false_iff_ne.mpr e).symm
theorem tT (a b:Str):decide ((a1Z a:Key)=a1Z b)=decide (a=b):=by
 by_cases e:a=b
 · subst e;simp
 · have h:¬(a1Z a:Key)=a1Z b:=fun q=>e (Sum.inr.inj q)
   rw[decide_eq_false h,decide_eq_false e]
theorem tU (a:Int) (b:Str):decide ((a4X a:Key)=a1Z b)=false:=decide_eq_false (fun q=>nomatch q)
theorem tV (a:Str) (b:Int):decide ((a1Z a:Key)=a4X b)=false:=decide_eq_false (fun q=>nomatch q)
def AO (prog:Program) (w:World):PySem.KeyKind prog w Key where
 is:=JM
 hash:=xE w
 inj:=fun v a b ha hb=>by
   rcases AS ha with ⟨i,t,rfl,rfl⟩ | ⟨x,t,rfl,rfl⟩
   · rcases AS hb with ⟨j,u,rfl,e⟩ | ⟨y,u,rfl,e⟩
     · injection e with e1 _;rw[e1]
     · exact nomatch e
   · rcases AS hb with ⟨j,u,rfl,e⟩ | ⟨y,u,rfl,e⟩
     · exact nomatch e
     · injection e with e1 _;rw[e1]
 byValue:=fun k v h=>by
   rcases AS h with ⟨i,t,rfl,rfl⟩ | ⟨x,t,rfl,rfl⟩ <;> rfl
 pyHash:=fun hv h=>by
   rcases AS hv with ⟨i,t,rfl,rfl⟩ | ⟨x,t,rfl,rfl⟩
   · exact wpAny_pyHash_int h
   · exact wpAny_pyHash_str h
 eqBool:=fun hu hv h=>by
   rcases AS hu with ⟨i,t,rfl,rfl⟩ | ⟨x,t,rfl,rfl⟩
   · rcases AS hv with ⟨j,u,rfl,rfl⟩ | ⟨y,u,rfl,rfl⟩
     · rw[tS] at h;exact wpAny_eqBool_int h
     · rw[tU] at h;exact SeqAt.EqAt.int_str i t y u _ _ _ _ h
   · rcases AS hv with ⟨j,u,rfl,rfl⟩ | ⟨y,u,rfl,rfl⟩
     · rw[tV] at h;exact SeqAt.EqAt.str_int x t j u _ _ _ _ h
     · rw[tT] at h;exact wpAny_eqBool_str h
 «strs»:=fun k x t v h=>by
   rcases AS h with ⟨i,u,rfl,e⟩ | ⟨y,u,rfl,e⟩
   · exact nomatch e
   · injection e with e1 _
     subst e1
     cases v <;> rfl
theorem XF (prog:Program) (w:World) (i:Int) (t:Tok):(AO prog w).is (.inl i) (.int i t)=true:=fL i t
theorem P3 (prog:Program) (w:World) (x:Str) (t:Tok):(AO prog w).is (.inr x) (.str x t)=true:=fM x t
inductive V where
 | non | bl (b:Bool) | int (i:Int) | str (x:Str) | byt (b:Array UInt8) | flt (b:UInt64) | ref (a:Addr) | ty (n:String)
 deriving DecidableEq
def RelV:V->Value->Prop
 | .non,u=>u=a2V
 | .bl b,u=>u=Value.bool b
 | .int i,u=>∃t,u=b5V i t
 | .str x,u=>∃t,u=c1Q x t
 | .byt b,u=>∃t,u=Value.bytes b t
 | .flt b,u=>∃t,u=Value.float b t
 | .ref a,u=>u=a0Z a
 | .ty n,u=>u=Value.type n
abbrev Vals:List V->List Value->Prop:=Paired RelV
theorem Vals.length {xs:List V}{us:List Value}(r:Vals xs us):xs.length=us.length:=Paired.length r
theorem Vals.get:∀{xs:List V}{us:List Value}{i:Nat}{x:V},Vals xs us->xs[i]?=some x->∃u,us[i]?=some u/\RelV x u
 | _,_,_,_,.nil,e=>by simp at e
 | _,_,0,_,.cons r _,e=>by simp at e;subst e;exact⟨_,rfl,r⟩
 | _,_,i+1,x,.cons _ t,e=>by
   obtain⟨u,h1,h2⟩:=Vals.get (i:=i) (x:=x) t (by simpa using e)
   exact⟨u,by simpa using h1,h2⟩
theorem Vals.set {x:V}{u:Value}(r:RelV x u):∀{xs:List V}{us:List Value}(i:Nat),Vals xs us->Vals (xs.set i x) (us.set i u)
 | _,_,_,.nil=>.nil
 | _,_,0,.cons _ t=>.cons r t
 | _,_,i+1,.cons q t=>.cons q (Vals.set r i t)
theorem Vals.append:∀{xs ys:List V}{us ws:List Value},Vals xs us->Vals ys ws->Vals (xs++ys) (us++ws)
 | _,_,_,_,.nil,s=>s
 | _,_,_,_,.cons r t,s=>.cons r (Vals.append t s)
theorem Vals.take:∀{xs:List V}{us:List Value}(n:Nat),Vals xs us->Vals (xs.take n) (us.take n)
 | _,_,0,_=>.nil
 | _,_,_+1,.nil=>.nil
 | _,_,n+1,.cons r t=>.cons r (Vals.take n t)
theorem Vals.drop:∀{xs:List V}{us:List Value}(n:Nat),Vals xs us->Vals (xs.drop n) (us.drop n)
 | _,_,0,r=>r
 | _,_,_+1,.nil=>.nil
 | _,_,n+1,.cons _ t=>Vals.drop n t
def RelO:Option V->Option Value->Prop
 | some v,some u=>RelV v u
 | none,none=>True
 | _,_=>False
def KV {κ:Type}:List (κ×V)->List (κ×Value)->Prop:=Paired fun(p:κ×V) (q:κ×Value)=>p.1=q.1/\RelV p.2 q.2
def kV:Key->V
 | .inl i=>.int i
 | .inr x=>.str x
inductive HO where
 | lst (xs:List V)
 | tup (xs:List V)
 | dK (kvs:List (Key×V)) | dT (kvs:List (List Key×V))
 | set (S:Int->Bool) (n:Nat)
 | ins (C dx:Addr) (fs:List (Str×V))
 | own (x:Addr)
 | xd (fs:List (Str×V))
 | met (f x:Addr)
 | rng (lo hi:Int)
 | frz (o:Obj) (u:HO)
 | tbl (ps:Array Value)
 | ext (φ:Heap->Prop)
abbrev Hp:=Addr->Option HO
def upd (H:Hp) (a:Addr) (o:HO):Hp:=fun b=>if b=a then some o else H b
theorem AK {H:Hp}{a:Addr}{o:HO}:upd H a o a=some o:=by unfold upd;rw[if_pos rfl]
theorem AM {H:Hp}{a b:Addr}{o:HO}(h:b≠a):upd H a o b=H b:=by unfold upd;rw[if_neg h]
theorem xF {H:Hp}{a b:Addr}{o u:HO}(h:H a=some o) (h':H b=some u) (d:o≠u):a≠b:=by
 intro e;subst e;rw[h] at h';exact d (Option.some.inj h')
theorem B2 {H:Hp}{a b:Addr}{o:HO}(h:H a=some o) (h':H b=none):a≠b:=by
 intro e;subst e;rw[h] at h';cases h'
section
variable (P:Program) (w:World)
def ObjOk (H:Hp) (h:Heap) (a:Addr):HO->Prop
 | .lst xs=>xs.length<=sizeLine/\∃(its:List Value) (n:Nat),Vals xs its/\h.get? a=some { cls:=.type "list", data:=.seq its.toArray n }
 | .tup xs=>xs.length<=sizeLine/\∃its:List Value,Vals xs its/\IsTup h a its.toArray
 | .dK kvs=>kvs.length<=sizeLine/\(a==sysModules)=false/\∃vs,KV kvs vs/\h.DictOf (AO P w) a vs
 | .dT kvs=>kvs.length<=sizeLine/\(a==sysModules)=false/\∃xs:List (List Key×Addr×Value),
     Paired (fun(p:List Key×V) (q:List Key×Addr×Value)=>p.1=q.1/\H q.2.1=some (.tup (p.1.map kV))/\RelV p.2 q.2.2) kvs xs /\
     ∃o es ep,h.get? a=some o/\o.ExactDict/\o.data = .dict es ep/\es.toList=xs.map (entryOfKey (tupleKind (AO P w)))/\(xs.map (·.1)).Nodup
 | .set S n=>h.SetOf (intKind P w) a S n
 | .ins C dx fs=>H dx=some (.own a)/\fs.length<=1000/\dx≠a/\h.get? a=some (PySem.W.instObj C dx) /\
     ∃mA,h.Ns1 dx mA/\(∀f,RelO (fs.lookup f) (mA f))/\PySem.Within mA (fs.map (·.1))
 | .own _=>∃o,h.get? a=some o
 | .xd fs=>∃mA,h.Ns1 a mA/\∀f,RelO (fs.lookup f) (mA f)
 | .rng lo hi=>∃t u v,h.get? a=some { cls:=.type "range", data:=.fields #[.int lo t,.int hi u,.int 1 v] }
 | .frz o u=>h.get? a=some o/\ObjOk H h a u
 | .tbl ps=>h.get? a=some { cls:=.none,data:=.fields ps }
 | .met f x=>h.get? a=some (PySem.W.methodObj (.ref f) (.ref x))
 | .ext φ=>φ h/\(∃o,h.get? a=some o)/\∀h1 h2:Heap,φ h1->(∀o,h1.get? a=some o->h2.get? a=some o)->φ h2
def HOk (H:Hp) (h:Heap):Prop:=∀a o,H a=some o->ObjOk P w H h a o
end
section
variable {P:Program}{w:World}{H H':Hp}{h h':Heap}{a:Addr}{o:HO}
theorem ObjOk.lt (x:ObjOk P w H h a o):a < h.objs.size:=by
 cases o with
 | lst xs=>obtain⟨_,_,_,_,e⟩:=x;exact zM e
 | tup xs=>obtain⟨_,_,_,p⟩:=x;exact p.lt
 | dK kvs=>obtain⟨_,_,_,_,o,_,_,e,_⟩:=x;exact zM e
 | dT kvs=>obtain⟨_,_,_,_,o,_,_,e,_⟩:=x;exact zM e
 | set S n=>obtain⟨o,_,_,_,e,_⟩:=x;exact zM e
 | ins C dx fs=>obtain⟨_,_,_,e,_⟩:=x;exact zM e
 | own y=>obtain⟨_,e⟩:=x;exact zM e
 | xd fs=>obtain⟨_,⟨_,_,_,e,_⟩,_⟩:=x;exact zM e
 | rng lo hi=>obtain⟨_,_,_,e⟩:=x;exact zM e
 | frz ob u=>obtain⟨e,_⟩:=x;exact zM e
 | tbl ps=>exact zM (show h.get? a=some _ from x)
 | met f y=>exact zM (show h.get? a=some _ from x)
 | ext φ=>obtain⟨_,⟨_,e⟩,_⟩:=x;exact zM e
theorem Paired.mapP {α β:Type}{F G:α->β->Prop}:∀{l₁:List α}{l₂:List β},Paired F l₁ l₂->(∀a b,F a b->G a b)->Paired G l₁ l₂
 | _,_,.nil,_=>.nil
 | _,_,.cons r t,f=>.cons (f _ _ r) (Paired.mapP t f)
theorem ObjOk.stay (x:ObjOk P w H h a o) (k:∀b u,(b=a∨H b=some (.own a))->h.get? b=some u->h'.get? b=some u)
   (ho:∀b,H b=some (.own a)->H' b=some (.own a)) (ht:∀b xs,H b=some (.tup xs)->H' b=some (.tup xs)):ObjOk P w H' h' a o:=by
 induction o with
 | lst xs=>obtain⟨z,its,n,r,e⟩:=x;exact⟨z,its,n,r,k _ _ (.inl rfl) e⟩
 | tup xs=>obtain⟨z,its,r,ob,e,c⟩:=x;exact⟨z,its,r,ob,k _ _ (.inl rfl) e,c⟩
 | dK kvs=>obtain⟨z,y,vs,r,ob,es,ep,e,c⟩:=x;exact⟨z,y,vs,r,ob,es,ep,k _ _ (.inl rfl) e,c⟩
 | dT kvs=>
   obtain⟨z,y,xs,r,ob,es,ep,e,c⟩:=x
   exact⟨z,y,xs,Paired.mapP r fun p q z=>⟨z.1,ht _ _ z.2.1,z.2.2⟩,ob,es,ep,k _ _ (.inl rfl) e,c⟩
 | set S n=>obtain⟨ob,es,ep,t,e,c⟩:=x;exact⟨ob,es,ep,t,k _ _ (.inl rfl) e,c⟩
 | ins C dx fs=>
   obtain⟨d,z,ne,e,mA,⟨od,es,ep,e2,c⟩,r⟩:=x
   exact⟨ho _ d,z,ne,k _ _ (.inl rfl) e,mA,⟨od,es,ep,k _ _ (.inr d) e2,c⟩,r⟩
 | own y=>obtain⟨ob,e⟩:=x;exact⟨ob,k _ _ (.inl rfl) e⟩
 | xd fs=>obtain⟨mA,⟨od,es,ep,e,c⟩,r⟩:=x;exact⟨mA,⟨od,es,ep,k _ _ (.inl rfl) e,c⟩,r⟩
 | rng lo hi=>obtain⟨t,u,v,e⟩:=x;exact⟨t,u,v,k _ _ (.inl rfl) e⟩
 | frz ob u ih=>obtain⟨e,q⟩:=x;exact⟨k _ _ (.inl rfl) e,ih q⟩
 | tbl ps=>
   have e:h.get? a=some { cls:=.none,data:=.fields ps }:=x
   show h'.get? a=some { cls:=.none,data:=.fields ps }
   exact k a _ (.inl rfl) e
 | met f y=>
   have e:h.get? a=some (PySem.W.methodObj (.ref f) (.ref y)):=x
   show h'.get? a=some (PySem.W.methodObj (.ref f) (.ref y))
   exact k a _ (.inl rfl) e
 | ext φ=>obtain⟨p,⟨o,e⟩,st⟩:=x;exact⟨st _ _ p fun o q=>k _ _ (.inl rfl) q,⟨o,k _ _ (.inl rfl) e⟩,st⟩
theorem HOk.lt (x:HOk P w H h) (e:H a=some o):a < h.objs.size:=(x a o e).lt
theorem HOk.fresh (x:HOk P w H h) (e:h.objs.size<=a):H a=none:=by
 cases q:H a with
 | none=>rfl
 | some u=>exact absurd (zP (x.lt q) e) (yF _)
theorem HOk.kept (x:HOk P w H h) (k:∀b u,h.get? b=some u->h'.get? b=some u):HOk P w H h':=fun a o e=>
 (x a o e).stay (fun b u _ q=>k b u q) (fun _ q=>q) fun _ _ q=>q
theorem HOk.laid (x:HOk P w H h) (k:∀b u,h.get? b=some u->h'.get? b=some u) (hp:h.objs.size<=a) (new:ObjOk P w (upd H a o) h' a o):HOk P w (upd H a o) h':=fun b u e=>by
 have hn:=x.fresh hp
 by_cases hb:b=a
 · subst hb;rw[AK] at e;cases e;exact new
 · rw[AM hb] at e
   exact(x b u e).stay (fun c v _ q=>k c v q) (fun c q=>by rw[AM (B2 q hn)];exact q) fun c xs q=>by rw[AM (B2 q hn)];exact q
end
def Rd (H:Hp) (a:Addr) (u:HO):Prop:=H a=some u∨∃o,H a=some (.frz o u)
theorem Rd.ok {P:Program}{w:World}{H:Hp}{h:Heap}{a:Addr}{u:HO}(r:Rd H a u) (x:HOk P w H h):ObjOk P w H h a u:=by
 rcases r with r | ⟨o,r⟩
 · exact x a u r
 · obtain⟨_,q⟩:=x a _ r
   exact q
def Mut:Option HO->Prop
 | some (.lst _)=>True
 | some (.dK _)=>True
 | some (.dT _)=>True
 | some (.set _ _)=>True
 | some (.ins _ _ _)=>True
 | some (.ext _)=>True
 | _=>False
section
variable {P:Program}{w:World}{H:Hp}{h h':Heap}{x e:Addr}{o':HO}
theorem HOk.write (ok:HOk P w H h) (mu:Mut (H x)) (he:e=x∨H e=some (.own x)) (k:∀b u,b≠e->h.get? b=some u->h'.get? b=some u) (heo:∃u,h'.get? e=some u)
   (new:ObjOk P w (upd H x o') h' x o'):HOk P w (upd H x o') h':=fun b u q=>by
 have nown:∀c y,H c=some (.own y)->c≠x:=fun c y r z=>by subst z;rw[r] at mu;exact mu
 have ntup:∀c xs,H c=some (.tup xs)->c≠x:=fun c xs r z=>by subst z;rw[r] at mu;exact mu
 by_cases hb:b=x
 · subst hb;rw[AK] at q;cases q;exact new
 · rw[AM hb] at q
   by_cases hbe:b=e
   · have q':H b=some (.own x):=by
       rcases he with z | z
       · exact absurd (hbe.trans z) hb
       · rw[hbe];exact z
     rw[q] at q';cases q'
     obtain⟨v,hv⟩:=heo
     exact⟨v,by rw[hbe];exact hv⟩
   · refine(ok b u q).stay (fun c v hc r=>k c v ?_ r) (fun c r=>by rw[AM (nown c b r)];exact r) fun c xs r=>by rw[AM (ntup c xs r)];exact r
     rcases hc with rfl | hc
     · exact hbe
     · rintro rfl
       rcases he with z | z
       · exact nown c b hc z
       · rw[hc] at z;cases z;exact hb rfl
end
structure Un (fs ex:List Addr) (H H':Hp) (h h':Heap):Prop where
 keep:∀b o,h.get? b=some o->H b=none->b∉fs->b∉ex->h'.get? b=some o
 slot:∀b o,h.get? b=some o->H b=none->b∈fs->b∉ex->∃sl,h'.get? b=some { o with slots:=sl }
 free:∀b o,h.get? b=some o->H b=none->b∉ex->H' b=none
 there:∀b o,h.get? b=some o->b∉ex->∃o',h'.get? b=some o'
 tups:∀b xs,H b=some (.tup xs)->H' b=some (.tup xs)
 frzs:∀b o u,H b=some (.frz o u)->H' b=some (.frz o u)
 tbls:∀b ps,H b=some (.tbl ps)->∃more,H' b=some (.tbl (ps++more))
section
variable {fs fs' ex ex':List Addr}{H H1 H2:Hp}{h h1 h2 h':Heap}{a x e:Addr}{o:HO}
theorem Un.any (u:Un fs ex H H1 h h1) {b:Addr}{ob:Obj}(q:h.get? b=some ob) (n:H b=none) (hx:b∉ex):∃sl,h1.get? b=some { ob with slots:=sl }:=by
 by_cases hb:b∈fs
 · exact u.slot b ob q n hb hx
 · exact⟨ob.slots,u.keep b ob q n hb hx⟩
theorem Un.kept (k:∀b u,h.get? b=some u->h'.get? b=some u):Un fs ex H H h h':=
 ⟨fun b ob q _ _ _=>k b ob q,fun b ob q _ _ _=>⟨ob.slots,k b ob q⟩,fun _ _ _ n _=>n,fun b ob q _=>⟨ob,k b ob q⟩,fun _ _ q=>q,fun _ _ _ q=>q,fun _ ps q=>⟨#[],by rw[q];simp⟩⟩
theorem Un.refl:Un fs ex H H h h:=Un.kept fun _ _ q=>q
theorem Un.laid (k:∀b u,h.get? b=some u->h'.get? b=some u) (hp:h.objs.size<=a) (hn:H a=none):Un fs ex H (upd H a o) h h' where
 keep:=fun b u q _ _ _=>k b u q
 slot:=fun b u q _ _ _=>⟨u.slots,k b u q⟩
 free:=fun b u q n _=>by rw[AM (zC (zP (zM q) hp))];exact n
 there:=fun b u q _=>⟨u,k b u q⟩
 tups:=fun b xs q=>by rw[AM (B2 q hn)];exact q
 frzs:=fun b u xs q=>by rw[AM (B2 q hn)];exact q
 tbls:=fun b ps q=>⟨#[],by rw[AM (B2 q hn),q];simp⟩
theorem Un.write (mu:Mut (H x)) (he:e=x∨H e=some (.own x)) (k:∀b u,b≠e->h.get? b=some u->h'.get? b=some u) (heo:∃u,h'.get? e=some u):Un fs ex H (upd H x o) h h':=by
 have hx:∀b,H b=none->b≠x:=fun b n z=>by subst z;rw[n] at mu;exact mu
 have hb:∀b,H b=none->b≠e:=fun b n z=>by
   subst z
   rcases he with r | r
   · exact hx b n r
   · rw[n] at r;cases r
 have hm:∀b u,H b=some u->¬Mut (some u)->b≠x:=fun b u q nm z=>by subst z;rw[q] at mu;exact nm mu
 refine⟨fun b u q n _ _=>k b u (hb b n) q,fun b u q n _ _=>⟨u.slots,k b u (hb b n) q⟩,fun b u q n _=>by rw[AM (hx b n)];exact n,fun b u q _=>?_,
   fun b xs q=>by rw[AM (hm b _ q fun z=>z)];exact q,fun b u xs q=>by rw[AM (hm b _ q fun z=>z)];exact q,fun b ps q=>⟨#[],by rw[AM (hm b _ q fun z=>z),q];simp⟩⟩
 by_cases hbe:b=e
 · subst hbe;exact heo
 · exact⟨u,k b u hbe q⟩
end
def trk (h:Heap) (H:Hp):List Addr:=(a1Q h.objs.size).filter fun a=>(H a).isSome
def VF (h:Heap) (H:Hp):Heap:=PySem.W.hideAll h (trk h H)
theorem fN (h:Heap) (H:Hp):(VF h H).objs.size=h.objs.size:=PySem.W.hideAll_size _ _
theorem jA {h:Heap}{H:Hp}{b:Addr}{o:Obj}(e:h.get? b=some o) (n:H b=none):(VF h H).get? b=some o:=
 PySem.W.hideAll_get _ e fun hm=>by
   have q:(H b).isSome=true:=(yL.mp hm).2
   rw[n] at q;simp at q
theorem oF {h:Heap}{H:Hp}{b:Addr}{o:Obj}(e:(VF h H).get? b=some o):h.get? b=some o/\H b=none:=by
 have e':h.get? b=some o:=PySem.W.of_hideAll (trk h H) e
 refine⟨e',?_⟩
 cases q:H b with
 | none=>rfl
 | some x=>
   have hm:b∈trk h H:=yL.mpr ⟨List.mem_range.mpr (zM e'),by simp[q]⟩
   have z:(VF h H).get? b=none:=PySem.W.hideAll_none (trk h H) hm
   rw[z] at e;cases e
structure Mod (K:Frg) (mg:Str->Option Value) (base:Heap):Prop where
 kin:K.In base
 glob:base.Ns mainGlobals mg
 blt:∃mb,base.Ns builtinsNs mb/\∀x:Str,x ≠ "__name__" -> mb x=bootBuiltins x
 nolimit:base.NoLimit
structure Cx where
 prog:Program
 w:World
 K:Frg
 mg:Str->Option Value
 base:Heap
 A:Around
 N:List Str
 s₀:Shared
 H₀:Hp
 env:Env
 outer:List Env
 stack:List Env
 ex:List Addr
 fn:Str->Bool
 calm:Bool
 pn:List (Addr×Obj)
 xe:Value->Shared->Prop
def frs (l:List Env):List Addr:=l.filterMap (·.frame)
abbrev Cx.fs (X:Cx):List Addr:=frs X.outer
def Vis (sc:Scope) (x:Str):Prop:=sc.names.lookup x=some .local∨sc.names.lookup x=some .cell∨sc.names.lookup x=some .free
def Loc (sc:Scope) (x:Str):Prop:=sc.names.lookup x=some .local∨sc.names.lookup x=some .cell
def A0l (env:Env) (h:Heap) (m:Str->Option Value) (x:Str) (u:Value):Prop:=
 (env.kindOf x=some .local/\m x=some u)∨((env.kindOf x=some .cell∨env.kindOf x=some .free)/\∃c,env.cells.lookup x=some c/\h.IsCell c (some u))
structure Cx.Ok (X:Cx):Prop where
 mod:Mod X.K X.mg X.base
 kind:X.env.scope.kind = .function
 glob:X.env.globals=mainGlobals
 blt:X.env.builtins=builtinsNs
 above:X.s₀.heap.objs.size<=X.env.locals
 inj:∀x y c,X.env.cells.lookup x=some c->X.env.cells.lookup y=some c->x=y
 has:∀x,(X.env.kindOf x=some .cell∨X.env.kindOf x=some .free)->∃c,X.env.cells.lookup x=some c
 cab:∀x c,X.fn x=true->X.env.cells.lookup x=some c->X.s₀.heap.objs.size<=c
 hd:X.calm=true->X.A.handled=none
 frames:X.A.frames=some X.stack
 stk:X.stack=X.outer∨(X.stack=X.env::X.outer/\X.env.frame=some X.env.locals)
 exf:∀b∈X.ex,b≠X.env.locals/\∀x c,X.env.cells.lookup x=some c->c≠b
 bs:∀b o,X.base.get? b=some o->X.s₀.heap.get? b=some o/\X.H₀ b=none
 bsz:X.base.objs.size<=X.s₀.heap.objs.size
 noex:∀b o,X.base.get? b=some o->b∉X.ex
 exfs:∀b∈X.ex,b∉X.fs
 funs:X.s₀.heap.FunFrames X.base X.outer
 frf:∀b∈X.fs,X.H₀ b=none
structure Inv (X:Cx) (pins:List (Addr×Obj)) (σ:List (Option V)) (H:Hp) (s:Shared):Prop where
 ok:X.Ok
 os:s.os=X.s₀.os
 bare:AllBare s.gens
 base:Un X.fs X.ex X.H₀ H X.s₀.heap s.heap
 loc:∃m,s.heap.Ns X.env.locals m/\∀(i:Nat) (x:Str) (v:V),X.N[i]?=some x->σ[i]?=some (some v)->Vis X.env.scope x->∃u,RelV v u/\A0l X.env s.heap m x u
 cell:∀x c,X.env.cells.lookup x=some c->∃v,s.heap.IsCell c v
 free:H X.env.locals=none
 freeC:∀x c,X.env.cells.lookup x=some c->H c=none
 pin:∀p∈X.pn++pins,s.heap.get? p.1=some p.2/\H p.1=none/\p.1≠X.env.locals/\p.1∉X.fs/\∀v,p.2.data≠.cell v
 hok:HOk X.prog X.w H s.heap
 len:σ.length=X.N.length
section
variable {X:Cx}{pins:List (Addr×Obj)}{σ:List (Option V)}{H H':Hp}{s:Shared}{h':Heap}
theorem Cx.Ok.nofr (ok:X.Ok) {b:Addr}{o:Obj}(e:X.base.get? b=some o):b∉X.fs:=fun hb=>by
 have:=(ok.funs.mem hb).1
 rw[e] at this;cases this
theorem Inv.bs (I:Inv X pins σ H s):∀b o,X.base.get? b=some o->s.heap.get? b=some o/\H b=none:=fun b o e=>
 ⟨I.base.keep b o (I.ok.bs b o e).1 (I.ok.bs b o e).2 (I.ok.nofr e) (I.ok.noex b o e),I.base.free b o (I.ok.bs b o e).1 (I.ok.bs b o e).2 (I.ok.noex b o e)⟩
theorem Inv.bk (I:Inv X pins σ H s):∀b o,X.base.get? b=some o->s.heap.get? b=some o:=fun b o e=>(I.bs b o e).1
theorem Inv.mod (I:Inv X pins σ H s):Mod X.K X.mg X.base:=I.ok.mod
theorem Inv.kIn (I:Inv X pins σ H s):X.K.In s.heap:=I.ok.mod.kin.keeps I.bk
theorem Inv.lt (I:Inv X pins σ H s):X.env.locals < s.heap.objs.size:=let ⟨_,hn,_⟩:=I.loc;hn.lt
theorem Inv.sz (I:Inv X pins σ H s):X.s₀.heap.objs.size<=s.heap.objs.size:=zN I.ok.above (xR I.lt)
theorem Inv.nofs (I:Inv X pins σ H s) {a:Addr}(h:s.heap.objs.size<=a):a∉X.fs:=fun hb=>by
 obtain⟨_,o,ho,_⟩:=I.ok.funs.mem hb
 exact absurd (zP (zM ho) (zN I.sz h)) (yF _)
theorem Inv.cne (I:Inv X pins σ H s):∀x c,X.env.cells.lookup x=some c->c≠X.env.locals:=fun x c e z=>by
 obtain⟨v,o,ho,hd⟩:=I.cell x c e
 obtain⟨m,⟨o',es,ep,ho',hd',_⟩,_⟩:=I.loc
 rw[z,ho'] at ho;cases ho;rw[hd'] at hd;cases hd
theorem Inv.funs (I:Inv X pins σ H s):s.heap.FunFrames X.base X.outer:=by
 have all:∀(l:List Env),(∀b∈frs l,b∈X.fs)->X.s₀.heap.FunFrames X.base l->s.heap.FunFrames X.base l:=by
   intro l
   induction l with
   | nil=>intro _ _;trivial
   | cons env r ih=>
     intro hs hl
     obtain⟨hk,⟨L,o,hf,hn,ho,hd⟩,hr⟩:=hl
     have hL:L∈X.fs:=hs L (by unfold frs;rw[a6K,hf];exact a1W)
     obtain⟨sl,e⟩:=I.base.slot L o ho (I.ok.frf L hL) hL fun z=>I.ok.exfs L z hL
     exact⟨hk,⟨L,_,hf,hn,e,hd⟩,ih (fun b hb=>hs b (by unfold frs;rw[a6K,hf];exact yV _ hb)) hr⟩
 exact all X.outer (fun _ hb=>hb) I.ok.funs
theorem Inv.stack (I:Inv X pins σ H s):s.heap.FunFrames X.base X.stack:=by
 rcases I.ok.stk with e | ⟨e,hf⟩
 · rw[e];exact I.funs
 · rw[e]
   obtain⟨m,hn,_⟩:=I.loc
   refine .cons (by rw[I.ok.kind];decide) hf hn ?_ I.funs
   exact Heap.get?_none_of_le (zN I.ok.bsz I.ok.above)
theorem Inv.stkSub (I:Inv X pins σ H s):∀b∈frs X.stack,b∈X.env.locals::X.fs:=fun b hb=>by
 rcases I.ok.stk with e | ⟨e,hf⟩
 · rw[e] at hb;exact yV _ hb
 · rw[e] at hb
   unfold frs at hb
   rw[a6K,hf] at hb
   exact hb
theorem Inv.stkFree (I:Inv X pins σ H s):∀b∈frs X.stack,H b=none:=fun b hb=>by
 rcases yX.mp (I.stkSub b hb) with e | hb
 · rw[e];exact I.free
 · obtain⟨_,o,ho,_⟩:=I.ok.funs.mem hb
   exact I.base.free b o ho (I.ok.frf b hb) fun z=>I.ok.exfs b z hb
theorem Inv.step {g':Array GenState}{t':Nat}{d':Drawn}{ch:List Addr}(I:Inv X pins σ H s)
   (hch:∀b∈ch,(b∈X.ex∨X.s₀.heap.objs.size<=b)/\b≠X.env.locals/\(∀x c,X.env.cells.lookup x=some c->c≠b)/\∀p∈X.pn++pins,p.1≠b)
   (keep:∀b o,b≠X.env.locals->b∉X.fs->b∉ch->s.heap.get? b=some o->H b=none->h'.get? b=some o)
   (slot:∀b o,b≠X.env.locals->b∈X.fs->b∉ch->s.heap.get? b=some o->H b=none->∃sl,h'.get? b=some { o with slots:=sl }) (free:∀b o,b∉ch->s.heap.get? b=some o->H b=none->H' b=none)
   (there:∀b o,b∉ch->s.heap.get? b=some o->∃o',h'.get? b=some o')
   (tups:∀b xs,H b=some (.tup xs)->H' b=some (.tup xs)) (frzs:∀b o u,H b=some (.frz o u)->H' b=some (.frz o u)) (tbls:∀b ps,H b=some (.tbl ps)->∃more,H' b=some (.tbl (ps++more)))
   (ns:∀m,s.heap.Ns X.env.locals m->h'.Ns X.env.locals m) (hok:HOk X.prog X.w H' h') (hg:AllBare g') :
   Inv X pins σ H' { s with heap:=h',gens:=g',drawn:=d',toks:=t' }:=by
 have neL:∀b o,X.s₀.heap.get? b=some o->b≠X.env.locals:=fun b o e=>zC (zP (zM e) I.ok.above)
 have neC:∀b o,X.s₀.heap.get? b=some o->b∉X.ex->b∉ch:=fun b o e hx hb=>by
   rcases (hch b hb).1 with z | z
   · exact hx z
   · exact absurd (zP (zM e) z) (yF _)
 have cellK:∀x c,X.env.cells.lookup x=some c->∀v,s.heap.IsCell c v->h'.IsCell c v:=fun x c e v ⟨o,ho,hd⟩=>by
   have nch:c∉ch:=fun z=>(hch c z).2.2.1 x c e rfl
   by_cases hc:c∈X.fs
   · obtain⟨sl,q⟩:=slot c o (I.cne x c e) hc nch ho (I.freeC x c e)
     exact⟨_,q,hd⟩
   · exact⟨o,keep c o (I.cne x c e) hc nch ho (I.freeC x c e),hd⟩
 refine⟨I.ok,I.os,hg,⟨fun b o e n hb hx=>?_,fun b o e n hb hx=>?_,fun b o e n hx=>?_,fun b o e hx=>?_,fun b xs e=>tups b xs (I.base.tups b xs e),fun b o xs e=>frzs b o xs (I.base.frzs b o xs e),fun b ps e=>?_⟩,?_,fun x c e=>?_,?_,fun x c e=>?_,fun p hp=>?_,hok,I.len⟩
 · exact keep b o (neL b o e) hb (neC b o e hx) (I.base.keep b o e n hb hx) (I.base.free b o e n hx)
 · obtain⟨sl,e1⟩:=I.base.slot b o e n hb hx
   obtain⟨sl',e2⟩:=slot b _ (neL b o e) hb (neC b o e hx) e1 (I.base.free b o e n hx)
   exact⟨sl',e2⟩
 · obtain⟨o',e1⟩:=I.base.there b o e hx
   exact free b o' (neC b o e hx) e1 (I.base.free b o e n hx)
 · obtain⟨o',e1⟩:=I.base.there b o e hx
   exact there b o' (neC b o e hx) e1
 · obtain⟨m1,e1⟩:=I.base.tbls b ps e
   obtain⟨m2,e2⟩:=tbls b _ e1
   exact⟨m1++m2,by rw[e2,Array.append_assoc]⟩
 · obtain⟨m,hn,hl⟩:=I.loc
   refine⟨m,ns m hn,fun i x v e1 e2 e3=>?_⟩
   obtain⟨u,r,l⟩:=hl i x v e1 e2 e3
   refine⟨u,r,?_⟩
   rcases l with l | ⟨k,c,e,z⟩
   · exact .inl l
   · exact .inr ⟨k,c,e,cellK x c e _ z⟩
 · obtain⟨v,z⟩:=I.cell x c e
   exact⟨v,cellK x c e v z⟩
 · obtain⟨m,⟨o,_,_,ho,_⟩,_⟩:=I.loc
   exact free _ o (fun z=>(hch _ z).2.1 rfl) ho I.free
 · obtain⟨v,o,ho,hd⟩:=I.cell x c e
   exact free c o (fun z=>(hch c z).2.2.1 x c e rfl) ho (I.freeC x c e)
 · obtain⟨e,n,ne,nf,d⟩:=I.pin p hp
   have nch:p.1∉ch:=fun z=>(hch p.1 z).2.2.2 p hp rfl
   exact⟨keep p.1 p.2 ne nf nch e n,free p.1 p.2 nch e n,ne,nf,d⟩
theorem Inv.un {t':Nat}(I:Inv X pins σ H s) (u:Un X.fs [] H H' s.heap h') (hok:HOk X.prog X.w H' h'):Inv X pins σ H' { s with heap:=h',toks:=t' }:=by
 obtain⟨m,⟨o,es,ep,ho,r⟩,_⟩:=id I.loc
 obtain⟨sl,hL⟩:=u.any ho I.free (by simp)
 exact I.step (g':=s.gens) (d':=s.drawn) (ch:=[]) (fun _ z=>nomatch z) (fun b o _ hb _ e n=>u.keep b o e n hb (by simp)) (fun b o _ hb _ e n=>u.slot b o e n hb (by simp)) (fun b o _ e n=>u.free b o e n (by simp)) (fun b o _ e=>u.there b o e (by simp)) u.tups u.frzs u.tbls (fun m' hm=>by
   obtain⟨o',es',ep',ho',r'⟩:=hm
   rw[ho] at ho';cases ho'
   exact⟨_,es',ep',hL,r'⟩) hok I.bare
theorem Inv.call {g':Array GenState}{t':Nat}{d':Drawn}{ch:List Addr}(I:Inv X pins σ H s) (u:Un (frs X.stack) ch H H' s.heap h') (hok:HOk X.prog X.w H' h') (hg:AllBare g')
   (hch:∀b∈ch,(b∈X.ex∨X.s₀.heap.objs.size<=b)/\b≠X.env.locals/\(∀x c,X.env.cells.lookup x=some c->c≠b)/\∀p∈X.pn++pins,p.1≠b) :
   Inv X pins σ H' { s with heap:=h',gens:=g',drawn:=d',toks:=t' }:=by
 obtain⟨m,⟨o,es,ep,ho,r⟩,_⟩:=id I.loc
 obtain⟨sl,hL⟩:=u.any ho I.free fun z=>(hch _ z).2.1 rfl
 exact I.step (ch:=ch) hch (fun b o hL hb hc e n=>u.keep b o e n (fun z=>(yX.mp (I.stkSub b z)).elim hL hb) hc) (fun b o _ _ hc e n=>u.any e n hc) (fun b o hc e n=>u.free b o e n hc) (fun b o hc e=>u.there b o e hc) u.tups u.frzs u.tbls (fun m' hm=>by
   obtain⟨o',es',ep',ho',r'⟩:=hm
   rw[ho] at ho';cases ho'
   exact⟨_,es',ep',hL,r'⟩) hok hg
theorem Inv.turned {t':Nat}{it:Addr}(I:Inv X pins σ H s) (k:∀b o,b≠it->s.heap.get? b=some o->h'.get? b=some o) (hn:H it=none) (hL:it≠X.env.locals)
   (h1:it∈X.ex∨X.s₀.heap.objs.size<=it) (h2:∀x c,X.env.cells.lookup x=some c->c≠it) (h3:∀p∈X.pn++pins,p.1≠it):Inv X pins σ H { s with heap:=h',toks:=t' }:=by
 have nit:∀b u,H b=some u->b≠it:=fun b u e z=>by rw[z,hn] at e;cases e
 refine I.step (g':=s.gens) (d':=s.drawn) (ch:=[it]) (fun b hb=>?_) (fun b o _ _ hc e _=>k b o (fun z=>hc (by simp[z])) e) (fun b o _ _ hc e _=>⟨o.slots,k b o (fun z=>hc (by simp[z])) e⟩) (fun _ _ _ _ n=>n)
   (fun b o hc e=>⟨o,k b o (fun z=>hc (by simp[z])) e⟩) (fun _ _ e=>e) (fun _ _ _ e=>e) (fun b ps e=>⟨#[],by rw[e];simp⟩) (fun m hm=>?_) (fun b u e=>?_) I.bare
 · have e:b=it:=by simpa using hb
   subst e
   exact⟨h1,hL,h2,h3⟩
 · obtain⟨o,es,ep,ho,r⟩:=hm
   exact⟨o,es,ep,k _ o (b4Z hL) ho,r⟩
 · refine(I.hok b u e).stay (fun c v hc q=>k c v ?_ q) (fun _ q=>q) fun _ _ q=>q
   rcases hc with z | z
   · rw[z];exact nit b u e
   · exact nit c _ z
theorem Inv.tok (I:Inv X pins σ H s) (t:Nat):Inv X pins σ H { s with toks:=t }:=I.un (h':=s.heap) (t':=t) Un.refl I.hok
theorem Inv.kept {t':Nat}(I:Inv X pins σ H s) (k:∀b u,s.heap.get? b=some u->h'.get? b=some u):Inv X pins σ H { s with heap:=h',toks:=t' }:=I.un (Un.kept k) (I.hok.kept k)
theorem Inv.laid {a:Addr}{o:HO}{t':Nat}(I:Inv X pins σ H s) (k:∀b u,s.heap.get? b=some u->h'.get? b=some u) (hp:s.heap.objs.size<=a) (new:ObjOk X.prog X.w (upd H a o) h' a o) :
   Inv X pins σ (upd H a o) { s with heap:=h',toks:=t' }:=I.un (Un.laid k hp (I.hok.fresh hp)) (I.hok.laid k hp new)
theorem Inv.write {x e:Addr}{o:HO}{t':Nat}(I:Inv X pins σ H s) (mu:Mut (H x)) (he:e=x∨H e=some (.own x)) (k:∀b u,b≠e->s.heap.get? b=some u->h'.get? b=some u) (heo:∃u,h'.get? e=some u)
   (new:ObjOk X.prog X.w (upd H x o) h' x o):Inv X pins σ (upd H x o) { s with heap:=h',toks:=t' }:=I.un (Un.write mu he k heo) (I.hok.write mu he k heo new)
theorem Inv.weak {σ':List (Option V)}(I:Inv X pins σ H s) (hl:σ'.length=σ.length) (w:∀(i:Nat) v,σ'[i]?=some (some v)->σ[i]?=some (some v)):Inv X pins σ' H s:=
 ⟨I.ok,I.os,I.bare,I.base,let ⟨m,hn,hl'⟩:=I.loc;⟨m,hn,fun i x v e1 e2 e3=>hl' i x v e1 (w i v e2) e3⟩,I.cell,I.free,I.freeC,I.pin,I.hok,hl.trans I.len⟩
theorem Inv.pins_of {pins':List (Addr×Obj)}(I:Inv X pins σ H s) (h:∀p∈pins',s.heap.get? p.1=some p.2/\H p.1=none/\p.1≠X.env.locals/\p.1∉X.fs/\∀v,p.2.data≠.cell v):Inv X pins' σ H s:=
 ⟨I.ok,I.os,I.bare,I.base,I.loc,I.cell,I.free,I.freeC,fun p hp=>(yW.mp hp).elim (fun z=>I.pin p (zA _ z)) (h p),I.hok,I.len⟩
theorem XG {N:List Str}(hN:N.Nodup) {i j:Nat}{x:Str}(a:N[i]?=some x) (b:N[j]?=some x):i=j:=by
 obtain⟨h1,e1⟩:=yT.mp a
 obtain⟨h2,e2⟩:=yT.mp b
 exact(List.getElem_inj hN).mp (e1.trans e2.symm)
theorem fQ {M:Model}{A:Around}{E:Value->Shared->Prop}{i:Nat}{x:Str}{v:V}{u:Value}{Q:Unit->Shared->Prop}(I:Inv X pins σ H s) (hN:X.N.Nodup) (hi:X.N[i]?=some x) (hx:Loc X.env.scope x) (r:RelV v u)
   (h:∀s',Inv X pins (σ.set i (some v)) H s'->(∃a,Heap.SameBut a s.heap s'.heap/\(a=X.env.locals∨X.env.cells.lookup x=some a))->Q () s') (hf:X.fn x=true∨X.env.scope.names.lookup x=some .local:=by first | exact .inl rfl | exact .inr rfl | assumption):wpAny M A (storeName X.env x u) Q E s:=by
 obtain⟨m,hn,hl⟩:=id I.loc
 have hcls:(X.env.scope.kind==.class||(X.env.scope.kind==.module&&X.env.locals != X.env.globals))=false:=by rw[I.ok.kind];rfl
 have hiσ:i < σ.length:=by rw[I.len];exact(yT.mp hi).1
 have cne:=I.cne
 have tracked:∀{a:Addr}{h':Heap},(∃o,s.heap.get? a=some o/\H a=none)->Heap.SameBut a s.heap h'->HOk X.prog X.w H h':=fun {a h'} ha hs b ob e=>by
   obtain⟨_,_,hfree⟩:=ha
   refine(I.hok b ob e).stay (fun c w' hc q=>(hs.2 c ?_).trans q) (fun _ q=>q) fun _ _ q=>q
   rintro rfl
   rcases hc with rfl | hc
   · rw[hfree] at e;cases e
   · rw[hfree] at hc;cases hc
 rcases hx with hk | hk
 · refine wpAny_storeName_local hk hn (fun h' hn' hs=>?_) hcls
   obtain⟨oL,_,_,hoL,_⟩:=id hn
   refine h _ ⟨I.ok,I.os,I.bare,⟨fun b o e n hb hx=>?_,fun b o e n hb hx=>?_,I.base.free,fun b o e hx=>?_,I.base.tups,I.base.frzs,I.base.tbls⟩,⟨_,hn',fun j y v' e1 e2 e3=>?_⟩,fun y c e=>?_,I.free,I.freeC,fun p hp=>?_,tracked ⟨oL,hoL,I.free⟩ hs,by simpa using I.len⟩ ⟨_,hs,.inl rfl⟩
   · exact(hs.2 b (zC (zP (zM e) I.ok.above))).trans (I.base.keep b o e n hb hx)
   · obtain⟨sl,e1⟩:=I.base.slot b o e n hb hx
     exact⟨sl,(hs.2 b (zC (zP (zM e) I.ok.above))).trans e1⟩
   · obtain⟨o',e1⟩:=I.base.there b o e hx
     exact⟨o',(hs.2 b (zC (zP (zM e) I.ok.above))).trans e1⟩
   · by_cases hj:j=i
     · subst hj
       rw[hi] at e1;cases e1
       rw[List.getElem?_set_self hiσ] at e2
       cases e2
       exact⟨u,r,.inl ⟨hk,by simp⟩⟩
     · rw[b5X (b4Z hj)] at e2
       obtain⟨u',r',q⟩:=hl j y v' e1 e2 e3
       refine⟨u',r',?_⟩
       rcases q with ⟨k,e⟩ | ⟨k,c,e,z⟩
       · refine .inl ⟨k,?_⟩
         have:y≠x:=fun e=>hj (XG hN e1 (e▸hi))
         simp[this,e]
       · exact .inr ⟨k,c,e,z.sameBut hs (cne y c e)⟩
   · obtain⟨w',z⟩:=I.cell y c e
     exact⟨w',z.sameBut hs (cne y c e)⟩
   · obtain⟨e,n,ne,nf,d⟩:=I.pin p hp
     exact⟨(hs.2 p.1 ne).trans e,n,ne,nf,d⟩
 · have hfn:X.fn x=true:=by
     rcases hf with z | z
     · exact z
     · rw[z] at hk;cases hk
   obtain⟨c,hc⟩:=I.ok.has x (.inl hk)
   obtain⟨w',z⟩:=I.cell x c hc
   refine wpAny_storeName_cell I.ok.kind hk hc z (fun h' hc' hs=>?_)
   obtain⟨oc,hoc,hocd⟩:=id z
   refine h { s with heap:=h' } ⟨I.ok,I.os,I.bare,⟨fun b o e n hb hx=>?_,fun b o e n hb hx=>?_,I.base.free,fun b o e hx=>?_,I.base.tups,I.base.frzs,I.base.tbls⟩,⟨m,hn.sameBut hs (b4Z (cne x c hc)),fun j y v' e1 e2 e3=>?_⟩,fun y c' e=>?_,I.free,I.freeC,fun p hp=>?_,tracked ⟨oc,hoc,I.freeC x c hc⟩ hs,by simpa using I.len⟩ ⟨c,hs,.inr hc⟩
   · exact(hs.2 b (zC (zP (zM e) (I.ok.cab x c hfn hc)))).trans (I.base.keep b o e n hb hx)
   · obtain⟨sl,e1⟩:=I.base.slot b o e n hb hx
     exact⟨sl,(hs.2 b (zC (zP (zM e) (I.ok.cab x c hfn hc)))).trans e1⟩
   · obtain⟨o',e1⟩:=I.base.there b o e hx
     exact⟨o',(hs.2 b (zC (zP (zM e) (I.ok.cab x c hfn hc)))).trans e1⟩
   · by_cases hj:j=i
     · subst hj
       rw[hi] at e1;cases e1
       rw[List.getElem?_set_self hiσ] at e2
       cases e2
       exact⟨u,r,.inr ⟨.inl hk,c,hc,hc'⟩⟩
     · rw[b5X (b4Z hj)] at e2
       obtain⟨u',r',q⟩:=hl j y v' e1 e2 e3
       refine⟨u',r',?_⟩
       rcases q with q | ⟨k,c',e,z'⟩
       · exact .inl q
       · refine .inr ⟨k,c',e,z'.sameBut hs ?_⟩
         rintro rfl
         exact hj (XG hN e1 (I.ok.inj _ _ _ e hc▸hi))
   · by_cases hcc:c'=c
     · subst hcc;exact⟨_,hc'⟩
     · obtain⟨w2,z2⟩:=I.cell y c' e
       exact⟨w2,z2.sameBut hs hcc⟩
   · obtain⟨e,n,ne,nf,d⟩:=I.pin p hp
     refine⟨(hs.2 p.1 ?_).trans e,n,ne,nf,d⟩
     intro q
     rw[q,hoc] at e
     have q':oc=p.2:=Option.some.inj e
     exact d w' (by rw[← q'];exact hocd)
theorem MN {M:Model}{A:Around}{E:Value->Shared->Prop}{i:Nat}{x:Str}{v:V}{u:Value}{Q:Unit->Shared->Prop}(I:Inv X pins σ H s) (hN:X.N.Nodup) (hi:X.N[i]?=some x) (hx:Loc X.env.scope x) (r:RelV v u)
   (h:∀s',Inv X pins (σ.set i (some v)) H s'->Q () s') (hf:X.fn x=true∨X.env.scope.names.lookup x=some .local:=by first | exact .inl rfl | exact .inr rfl | assumption):wpAny M A (storeName X.env x u) Q E s:=
 fQ I hN hi hx r (fun s' I' _=>h s' I') hf
theorem Inv.call' {s':Shared}{ch:List Addr}(I:Inv X pins σ H s) (ho:s'.os=s.os) (u:Un (frs X.stack) ch H H' s.heap s'.heap) (hok:HOk X.prog X.w H' s'.heap) (hg:AllBare s'.gens)
   (hch:∀b∈ch,(b∈X.ex∨X.s₀.heap.objs.size<=b)/\b≠X.env.locals/\(∀x c,X.env.cells.lookup x=some c->c≠b)/\∀p∈X.pn++pins,p.1≠b):Inv X pins σ H' s':=by
 obtain⟨h',g',d',t',o'⟩:=s'
 have e:o'=s.os:=ho
 subst e
 exact I.call (g':=g') (t':=t') (d':=d') u hok hg hch
end
abbrev XK:=Value->Option Addr->Hp->Prop
abbrev St:=List (Option V)
abbrev VK:=V->Hp->Prop
abbrev TE:=St->Hp->VK->Prop
abbrev TT:=St->Hp->(Bool->Hp->Prop)->Prop
abbrev TA:=St->Hp->(List V->Hp->Prop)->Prop
structure Ends where
 nx:St->Hp->Prop
 rt:VK
 bk:St->Hp->Prop:=fun _ _=>False
 ct:St->Hp->Prop:=fun _ _=>False
abbrev TS:=Ends->St->Hp->Prop
def EP (X:Cx) (pins:List (Addr×Obj)) (σ:St) (Q:VK) (u:Value) (s':Shared):Prop:=∃v H',Inv X pins σ H' s'/\RelV v u/\Q v H'
def TP (X:Cx) (pins:List (Addr×Obj)) (σ:St) (Q:Bool->Hp->Prop) (b:Bool) (s':Shared):Prop:=∃H',Inv X pins σ H' s'/\Q b H'
def AP (X:Cx) (pins:List (Addr×Obj)) (σ:St) (Q:List V->Hp->Prop) (us:List Value) (s':Shared):Prop:=∃vs H',Inv X pins σ H' s'/\Vals vs us/\Q vs H'
def SP (X:Cx) (pins:List (Addr×Obj)) (D:Ends) (f:Flow) (s':Shared):Prop:=
 match f with
 | .next=>∃σ' H',Inv X pins σ' H' s'/\D.nx σ' H'
 | .brk=>∃σ' H',Inv X pins σ' H' s'/\D.bk σ' H'
 | .cont=>∃σ' H',Inv X pins σ' H' s'/\D.ct σ' H'
 | .ret u=>∃v σ' H',Inv X pins σ' H' s'/\RelV v u/\D.rt v H'
def PE (X:Cx) (e:Expr) (t:TE):Prop:=
 ∀(pins:List (Addr×Obj)) (s:Shared) (σ:St) (H:Hp) (Q:VK),Inv X pins σ H s->t σ H Q->wpAny (model X.prog X.w) X.A (eval e X.env) (EP X pins σ Q) X.xe s
def PT (X:Cx) (e:Expr) (t:TT):Prop:=
 ∀(pins:List (Addr×Obj)) (s:Shared) (σ:St) (H:Hp) (Q:Bool->Hp->Prop),Inv X pins σ H s->t σ H Q->wpAny (model X.prog X.w) X.A (isTrue e X.env (eval e X.env)) (TP X pins σ Q) X.xe s
def PW (X:Cx) (e:Expr) (t:TT):Prop:=
 ∀(whole:Sem Value) (pins:List (Addr×Obj)) (s:Shared) (σ:St) (H:Hp) (Q:Bool->Hp->Prop),Inv X pins σ H s->t σ H Q->wpAny (model X.prog X.w) X.A (isTrue e X.env whole) (TP X pins σ Q) X.xe s
theorem PW.pt {X:Cx}{e:Expr}{t:TT}(h:PW X e t):PT X e t:=h _
def PA (X:Cx) (es:List Expr) (t:TA):Prop:=
 ∀(pos:Pos) (pins:List (Addr×Obj)) (s:Shared) (σ:St) (H:Hp) (Q:List V->Hp->Prop),Inv X pins σ H s->t σ H Q->wpAny (model X.prog X.w) X.A (spliced (backTo pos (starEach es X.env))) (AP X pins σ Q) X.xe s
def PS (X:Cx) (st:Stmt) (t:TS):Prop:=
 ∀(pins:List (Addr×Obj)) (s:Shared) (σ:St) (H:Hp) (D:Ends),Inv X pins σ H s->t D σ H->wpAny (model X.prog X.w) X.A (exec st X.env) (SP X pins D) X.xe s
def PSs (X:Cx) (st:List Stmt) (t:TS):Prop:=
 ∀(pins:List (Addr×Obj)) (s:Shared) (σ:St) (H:Hp) (D:Ends),Inv X pins σ H s->t D σ H->wpAny (model X.prog X.w) X.A (execs st X.env) (SP X pins D) X.xe s
theorem thn {α:Type}{t:Sem α}{Q Q':α->Shared->Prop}{M:Model}{A:Around}{E:Value->Shared->Prop}{s:Shared}(h:wpAny M A t Q E s) (hQ:∀a s,Q a s->Q' a s):wpAny M A t Q' E s:=wpAny_mono h hQ fun _ _ x=>x
section
variable {X:Cx}
def oG (i:Nat):TE:=fun σ H Q=>∃v,σ[i]?=some (some v)/\Q v H
def tC (v:V):TE:=fun _ H Q=>Q v H
theorem jB {i:Nat}{x:Str}{pos:Pos}(hN:X.N[i]?=some x) (hv:Vis X.env.scope x) (hd:(x==("__debug__":Str))=false:=by decide) (hcd:(x==("__classdict__":Str))=false:=by decide):PE X (.Name x pos) (oG i):=by
 intro pins s σ H Q I h
 obtain⟨v,e,h⟩:=h
 obtain⟨m,hn,hl⟩:=I.loc
 obtain⟨u,r,l⟩:=hl i x v hN e hv
 have fin:EP X pins σ Q u s:=⟨v,H,I,r,h⟩
 rcases l with ⟨hk,hm⟩ | ⟨hk,c,hc,hcell⟩
 · exact wpAny_Name (wpAny_loadName_local I.ok.kind hk hn hm fin) hd
 · rcases hk with hk | hk
   · exact wpAny_Name (wpAny_loadName_cell I.ok.kind hk hc hcell fin) hd
   · exact wpAny_Name (wpAny_loadName_free I.ok.kind hk hc hcell fin hcd) hd
theorem tW {i j pos}:PE X (.Constant (.int i) j pos) (tC (.int i)):=fun _ _ _ H _ I h=>wpAny_Constant_int ⟨.int i,H,I.tok _,⟨_,rfl⟩,h⟩
theorem xK {b j pos}:PE X (.Constant (.bool b) j pos) (tC (.bl b)):=fun _ _ _ H _ I h=>Constant_bool ⟨.bl b,H,I,rfl,h⟩
theorem tX {j pos}:PE X (.Constant .none j pos) (tC .non):=fun _ _ _ H _ I h=>Constant_none ⟨.non,H,I,rfl,h⟩
theorem tY {x j pos}:PE X (.Constant (.str x) j pos) (tC (.str x)):=fun _ _ _ H _ I h=>Calls.Constant_str ⟨.str x,H,I.tok _,⟨_,rfl⟩,h⟩
def Gl (X:Cx) (x:Str):Prop:=X.env.kindOf x=some .globalImplicit
theorem VG {E:Value->Shared->Prop}{pins:List (Addr×Obj)}{s:Shared}{σ:St}{H:Hp}{x:Str}{u:Value}{pos:Pos}{Q:Value->Shared->Prop}(I:Inv X pins σ H s) (hg:Gl X x) (hm:X.mg x=some u) (h:Q u s)
   (hd:(x==("__debug__":Str))=false:=by decide):wpAny (model X.prog X.w) X.A (eval (.Name x pos) X.env) Q E s:=
 Calls.Name_function_global I.ok.kind hg (Calls.loadGlobal_global (by rw[I.ok.glob];exact I.mod.glob.keeps I.bk) hm h) hd
theorem GZ {E:Value->Shared->Prop}{pins:List (Addr×Obj)}{s:Shared}{σ:St}{H:Hp}{x:Str}{u:Value}{pos:Pos}{Q:Value->Shared->Prop}(I:Inv X pins σ H s) (hg:Gl X x) (hm:X.mg x=none) (hv:bootBuiltins x=some u) (h:Q u s)
   (hn:x ≠ "__name__" := by decide) (hd:(x==("__debug__":Str))=false:=by decide):wpAny (model X.prog X.w) X.A (eval (.Name x pos) X.env) Q E s:=by
 obtain⟨mb,h1,h2⟩:=I.mod.blt
 exact Calls.Name_function_global I.ok.kind hg (Calls.loadGlobal_builtin (by rw[I.ok.glob];exact I.mod.glob.keeps I.bk) hm (by rw[I.ok.blt];exact h1.keeps I.bk) ((h2 x hn).trans hv) h) hd
theorem cS {x:Str}{v:V}{u:Value}{pos:Pos}(hg:Gl X x) (hm:X.mg x=some u) (r:RelV v u) (hd:(x==("__debug__":Str))=false:=by decide):PE X (.Name x pos) (tC v):=
 fun _ _ _ H _ I h=>VG I hg hm ⟨v,H,I,r,h⟩ hd
theorem IC {x:Str}{v:V}{u:Value}{pos:Pos}(hg:Gl X x) (hm:X.mg x=none) (hv:bootBuiltins x=some u) (r:RelV v u) (hn:x ≠ "__name__" := by decide) (hd:(x==("__debug__":Str))=false:=by decide):PE X (.Name x pos) (tC v):=
 fun _ _ _ H _ I h=>GZ I hg hm hv ⟨v,H,I,r,h⟩ hn hd
variable {a b:Expr}{ta tb:TE}{pos:Pos}
def PC (X:Cx) (op:CmpOp) (a b:Expr) (t:TE):Prop:=
 ∀(pins:List (Addr×Obj)) (s:Shared) (σ:St) (H:Hp) (Q:VK),Inv X pins σ H s->t σ H Q ->
   wpAny (model X.prog X.w) X.A (eval a X.env) (fun v s₁=>wpAny (model X.prog X.w) X.A (eval b X.env) (fun u s₂=>wpAny (model X.prog X.w) X.A (compareOp op v u) (EP X pins σ Q) X.xe s₂) X.xe s₁) X.xe s
def tB (t:TE):TT:=fun σ H Q=>t σ H fun x H1=>∃c,x = .bl c/\Q c H1
theorem tZ {op:CmpOp}{t:TE}(h:PC X op a b t) (h1:behindInMarks op b=false:=by first | exact nobehind _ (by decide) (by decide) | rfl):PE X (.Compare a [op] [b] pos) t:=fun pins s σ H Q I hw=>wpAny_Compare1 (h pins s σ H Q I hw) h1
theorem VH {op:CmpOp}{t:TE}(h:PC X op a b t) (h1:behindInMarks op b=false:=by first | exact nobehind _ (by decide) (by decide) | rfl):PT X (.Compare a [op] [b] pos) (tB t):=by
 intro pins s σ H Q I hw
 refine wpAny_isTrue_Compare1 (thn (h pins s σ H _ I hw) fun v s1 h1=>thn h1 fun u s2 h2=>thn h2 fun c s3 ⟨x,H1,I1,r1,q1⟩=>?_) h1
 obtain⟨d,rfl,q⟩:=q1
 cases r1
 exact wpAny_truthy_bool ⟨H1,I1,q⟩
theorem u0 {e:Expr}{t:TE}(h:PE X e t) (he:∀whole,isTrue e X.env whole=(do let v ← whole;standAt e.pos;holding [v] (truthy v)):=by intro _;rfl):PT X e (tB t):=by
 intro pins s σ H Q I hw
 refine isTrue_plain (thn (h pins s σ H _ I hw) fun v s1 ⟨x,H1,I1,r1,q1⟩=>?_) (he _)
 obtain⟨d,rfl,q⟩:=q1
 cases r1
 exact wpAny_truthy_bool ⟨H1,I1,q⟩
variable {tA tB':TT}{rest:List Expr}
def xL (t u:TT):TT:=fun σ H Q=>t σ H fun c H1=>if c=true then u σ H1 Q else Q false H1
def tOr (t u:TT):TT:=fun σ H Q=>t σ H fun c H1=>if c=true then Q true H1 else u σ H1 Q
def xN (t:TT):TT:=fun σ H Q=>t σ H fun c H1=>Q (!c) H1
theorem pw_and1 (ha:PT X a tA):PW X (.BoolOp .And [a] pos) tA:=by
 intro wh pins s σ H Q I h
 refine isTrue_and (thn (ha pins s σ H Q I h) fun c s1 e=>?_)
 cases c with
 | true=>exact isTrue_and_nil e
 | false=>exact e
theorem pw_or1 (ha:PT X a tA):PW X (.BoolOp .Or [a] pos) tA:=by
 intro wh pins s σ H Q I h
 refine isTrue_or (thn (ha pins s σ H Q I h) fun c s1 e=>?_)
 cases c with
 | false=>exact isTrue_or_nil e
 | true=>exact e
theorem pw_and (ha:PT X a tA) (hb:PW X (.BoolOp .And (b::rest) pos) tB'):PW X (.BoolOp .And (a::b::rest) pos) (xL tA tB'):=by
 intro wh pins s σ H Q I h
 refine isTrue_and (thn (ha pins s σ H _ I h) fun c s1 ⟨H1,I1,q1⟩=>?_)
 cases c with
 | true=>exact hb wh pins s1 σ H1 Q I1 q1
 | false=>exact⟨H1,I1,q1⟩
theorem pw_or (ha:PT X a tA) (hb:PW X (.BoolOp .Or (b::rest) pos) tB'):PW X (.BoolOp .Or (a::b::rest) pos) (tOr tA tB'):=by
 intro wh pins s σ H Q I h
 refine isTrue_or (thn (ha pins s σ H _ I h) fun c s1 ⟨H1,I1,q1⟩=>?_)
 cases c with
 | true=>exact⟨H1,I1,q1⟩
 | false=>exact hb wh pins s1 σ H1 Q I1 q1
theorem u4 (ha:PT X a tA):PT X (.UnaryOp .Not a pos) (xN tA):=by
 intro pins s σ H Q I h
 exact isTrue_not (ha pins s σ H (fun c H1=>Q (!c) H1) I h)
def sP (ta tb:TE):TE:=fun σ H Q=>ta σ H fun x H1=>∃c,x = .bl c/\if c=true then tb σ H1 Q else Q (.bl false) H1
def xO (ta tb:TE):TE:=fun σ H Q=>ta σ H fun x H1=>∃c,x = .bl c/\if c=true then Q (.bl true) H1 else tb σ H1 Q
def sQ (ta:TE):TE:=fun σ H Q=>ta σ H fun x H1=>∃c,x = .bl c/\Q (.bl (!c)) H1
theorem u5 {op} {t:TE}(h:PE X a t):PE X (.BoolOp op [a] pos) t:=fun pins s σ H Q I hw=>BoolOp_one (h pins s σ H Q I hw)
theorem u6 (ha:PE X a ta) (hb:PE X (.BoolOp .And (b::rest) pos) tb):PE X (.BoolOp .And (a::b::rest) pos) (sP ta tb):=by
 intro pins s σ H Q I h
 refine BoolOp_and (thn (ha pins s σ H _ I h) fun v s1 ⟨x,H1,I1,r1,q1⟩=>?_)
 obtain⟨c,rfl,q1⟩:=q1
 cases r1
 refine wpAny_truthy_bool ?_
 cases c with
 | true=>exact hb pins s1 σ H1 Q I1 q1
 | false=>exact⟨.bl false,H1,I1,rfl,q1⟩
theorem xS (ha:PE X a ta) (hb:PE X (.BoolOp .Or (b::rest) pos) tb):PE X (.BoolOp .Or (a::b::rest) pos) (xO ta tb):=by
 intro pins s σ H Q I h
 refine BoolOp_or (thn (ha pins s σ H _ I h) fun v s1 ⟨x,H1,I1,r1,q1⟩=>?_)
 obtain⟨c,rfl,q1⟩:=q1
 cases r1
 refine wpAny_truthy_bool ?_
 cases c with
 | false=>exact hb pins s1 σ H1 Q I1 q1
 | true=>exact⟨.bl true,H1,I1,rfl,q1⟩
theorem u7 (ha:PE X a ta):PE X (.UnaryOp .Not a pos) (sQ ta):=by
 intro pins s σ H Q I h
 refine UnaryOp_ (thn (ha pins s σ H _ I h) fun v s1 ⟨x,H1,I1,r1,q1⟩=>?_)
 obtain⟨c,rfl,q1⟩:=q1
 cases r1
 exact not_of (wpAny_truthy_bool ⟨.bl (!c),H1,I1,rfl,q1⟩)
def tIf (t:TT) (ta tb:TE):TE:=fun σ H Q=>t σ H fun c H1=>if c=true then ta σ H1 Q else tb σ H1 Q
theorem jC {c:Expr}(hc:PT X c tA) (ha:PE X a ta) (hb:PE X b tb):PE X (.IfExp c a b pos) (tIf tA ta tb):=by
 intro pins s σ H Q I h
 refine wpAny_IfExp (thn (hc pins s σ H _ I h) fun d s1 ⟨H1,I1,q1⟩=>?_)
 cases d with
 | true=>exact ha pins s1 σ H1 Q I1 q1
 | false=>exact hb pins s1 σ H1 Q I1 q1
end
def SqL (K:Frg) (H:Hp) (a:Addr) (xs:List V):Prop:=
 Rd H a (.lst xs) ∨
   ∃(o:Obj) (its:Array Value) (n:Nat),K.lookup a=some o/\o.cls = .type "list" /\ o.dict=none/\o.data = .seq its n/\its.size<=sizeLine/\Vals xs its.toList
def SqT (K:Frg) (H:Hp) (a:Addr) (xs:List V):Prop:=
 Rd H a (.tup xs) ∨
   ∃(o:Obj) (its:Array Value) (n:Nat),K.lookup a=some o/\o.cls = .type "tuple" /\ o.data = .seq its n/\its.size<=sizeLine/\Vals xs its.toList
def A0m:Value->Option V
 | .none=>some .non
 | .bool b=>some (.bl b)
 | .int i _=>some (.int i)
 | .str x _=>some (.str x)
 | .bytes b _=>some (.byt b)
 | .float b _=>some (.flt b)
 | .ref a=>some (.ref a)
 | .type n=>some (.ty n)
 | _=>none
theorem RelV.abs {x:V}{u:Value}(r:RelV x u):A0m u=some x:=by
 cases x with
 | non=>cases r;rfl
 | bl _=>cases r;rfl
 | int _=>obtain⟨t,rfl⟩:=r;rfl
 | str _=>obtain⟨t,rfl⟩:=r;rfl
 | byt _=>obtain⟨t,rfl⟩:=r;rfl
 | flt _=>obtain⟨t,rfl⟩:=r;rfl
 | ref _=>cases r;rfl
 | ty _=>cases r;rfl
theorem RelV.inj {x y:V}{u:Value}(r:RelV x u) (q:RelV y u):x=y:=Option.some.inj (r.abs.symm.trans q.abs)
theorem Vals.inj:∀{xs ys:List V}{us:List Value},Vals xs us->Vals ys us->xs=ys
 | _,_,_,.nil,.nil=>rfl
 | _,_,_,.cons r t,.cons r' t'=>by rw[r.inj r',Vals.inj t t']
section
variable {X:Cx}{pins:List (Addr×Obj)}{σ:St}{H:Hp}{s:Shared}{a:Addr}{xs ys:List V}
theorem SqL.of {K:Frg}(h:H a=some (.lst xs)):SqL K H a xs:=.inl (.inl h)
theorem Inv.list (I:Inv X pins σ H s) (h:SqL X.K H a xs):∃its:List Value,Vals xs its/\PlainL s.heap a its.toArray/\xs.length<=sizeLine:=by
 rcases h with h | ⟨o,its,n,hk,hc,hd,hs,hz,r⟩
 · obtain⟨z,its,n,r,e⟩:=h.ok I.hok
   exact⟨its,r,⟨_,n,e,rfl,rfl,rfl⟩,z⟩
 · refine⟨its.toList,r,⟨o,n,I.kIn a o hk,hc,hd,by simpa using hs⟩,?_⟩
   have e:=r.length
   simp only[a3J] at e
   omega
theorem Inv.tuple (I:Inv X pins σ H s) (h:SqT X.K H a xs):∃its:List Value,Vals xs its/\IsTup s.heap a its.toArray/\xs.length<=sizeLine:=by
 rcases h with h | ⟨o,its,n,hk,hc,hs,hz,r⟩
 · obtain⟨z,its,r,p⟩:=h.ok I.hok
   exact⟨its,r,p,z⟩
 · refine⟨its.toList,r,⟨o,I.kIn a o hk,hc,n,by simpa using hs⟩,?_⟩
   have e:=r.length
   simp only[a3J] at e
   omega
theorem Inv.list_inj (I:Inv X pins σ H s) (h:SqL X.K H a xs) (h':SqL X.K H a ys):xs=ys:=by
 obtain⟨its,r,⟨o,n,e,_,_,d⟩,_⟩:=I.list h
 obtain⟨its',r',⟨o',n',e',_,_,d'⟩,_⟩:=I.list h'
 rw[e] at e';cases e'
 rw[d] at d'
 injection d' with d1 _
 have:its=its':=by simpa using congrArg Array.toList d1
 subst this
 exact r.inj r'
theorem Inv.tuple_inj (I:Inv X pins σ H s) (h:SqT X.K H a xs) (h':SqT X.K H a ys):xs=ys:=by
 obtain⟨its,r,⟨o,e,_,n,d⟩,_⟩:=I.tuple h
 obtain⟨its',r',⟨o',e',_,n',d'⟩,_⟩:=I.tuple h'
 rw[e] at e';cases e'
 rw[d] at d'
 injection d' with d1 _
 have:its=its':=by simpa using congrArg Array.toList d1
 subst this
 exact r.inj r'
end
abbrev Cx.wish (X:Cx) (E:Value->Shared->Prop):Cx:={ X with xe:=E }
abbrev Cx.nox (X:Cx):Cx:=X.wish fun _ _=>False
theorem Cx.Ok.wish {X:Cx}(ok:X.Ok) (E:Value->Shared->Prop):(X.wish E).Ok:=
 ⟨ok.mod,ok.kind,ok.glob,ok.blt,ok.above,ok.inj,ok.has,ok.cab,ok.hd,ok.frames,ok.stk,ok.exf,ok.bs,ok.bsz,ok.noex,ok.exfs,ok.funs,ok.frf⟩
theorem Cx.Ok.unwish {X:Cx}{E:Value->Shared->Prop}(ok:(X.wish E).Ok):X.Ok:=
 ⟨ok.mod,ok.kind,ok.glob,ok.blt,ok.above,ok.inj,ok.has,ok.cab,ok.hd,ok.frames,ok.stk,ok.exf,ok.bs,ok.bsz,ok.noex,ok.exfs,ok.funs,ok.frf⟩
section
variable {X:Cx}{pins:List (Addr×Obj)}{σ:St}{H:Hp}{s:Shared}{E:Value->Shared->Prop}
theorem Inv.wish (I:Inv X pins σ H s) (E:Value->Shared->Prop):Inv (X.wish E) pins σ H s:=⟨I.ok.wish E,I.os,I.bare,I.base,I.loc,I.cell,I.free,I.freeC,I.pin,I.hok,I.len⟩
theorem Inv.unwish (I:Inv (X.wish E) pins σ H s):Inv X pins σ H s:=⟨I.ok.unwish,I.os,I.bare,I.base,I.loc,I.cell,I.free,I.freeC,I.pin,I.hok,I.len⟩
theorem SP.unwish {D:Ends}{f:Flow}{s':Shared}(h:SP (X.wish E) pins D f s'):SP X pins D f s':=by
 cases f with
 | next=>obtain⟨σ',H',I,q⟩:=h;exact⟨σ',H',I.unwish,q⟩
 | brk=>obtain⟨σ',H',I,q⟩:=h;exact⟨σ',H',I.unwish,q⟩
 | cont=>obtain⟨σ',H',I,q⟩:=h;exact⟨σ',H',I.unwish,q⟩
 | ret u=>obtain⟨v,σ',H',I,r,q⟩:=h;exact⟨v,σ',H',I.unwish,r,q⟩
theorem PSs.nox {st:List Stmt}{t:TS}(h:PSs X.nox st t):PSs X st t:=fun pins s σ H D I hw=>
 wpAny_mono (h pins s σ H D (I.wish _) hw) (fun _ _ q=>q.unwish) fun _ _ z=>b2Z z
end
section
variable {X:Cx}{st:Stmt}{rest:List Stmt}{t u:TS}{e:Expr}{te:TE}{pos:Pos}
def sR:TS:=fun D σ H=>D.nx σ H
def u8 (t u:TS):TS:=fun D σ H=>t { D with nx:=u D } σ H
theorem oH:PSs X [] sR:=fun _ _ σ H _ I h=>wpAny_execs_nil ⟨σ,H,I,h⟩
theorem XH (h1:PS X st t) (h2:PSs X rest u):PSs X (st::rest) (u8 t u):=by
 intro pins s σ H D I h
 refine wpAny_execs_cons (thn (h1 pins s σ H { D with nx:=u D } I h) fun f s1 q=>?_)
 cases f with
 | next=>
   obtain⟨σ',H',I',q⟩:=q
   exact h2 pins s1 σ' H' D I' q
 | ret v=>exact q
 | brk=>exact q
 | cont=>exact q
theorem cT (h1:PS X st t):PSs X [st] t:=by
 intro pins s σ H D I h
 refine wpAny_execs_cons (thn (h1 pins s σ H D I h) fun f s1 q=>?_)
 cases f with
 | next=>exact wpAny_execs_nil q
 | ret v=>exact q
 | brk=>exact q
 | cont=>exact q
theorem Inv.quiet {pins:List (Addr×Obj)}{σ:St}{H:Hp}{s:Shared}(I:Inv X pins σ H s):interactive X.env=false:=by simp[interactive,I.ok.kind]
def sS (te:TE):TS:=fun D σ H=>te σ H fun _ H1=>D.nx σ H1
theorem oI (he:PE X e te) (hs:swapsWith e none pos.line X.env=pure false:=by rfl):PS X (.Expr e pos) (sS te):=by
 intro pins s σ H D I h
 exact wpAny_Expr_any (thn (he pins s σ H _ I h) fun v s1 ⟨x,H1,I1,r1,q1⟩=>⟨σ,H1,I1,q1⟩) I.quiet hs
def xW (te:TE):TS:=fun D σ H=>te σ H D.rt
theorem u9 (he:PE X e te):PS X (.Return (some e) pos) (xW te):=by
 intro pins s σ H D I h
 exact wpAny_Return_some (thn (he pins s σ H _ I h) fun v s1 ⟨x,H1,I1,r1,q1⟩=>⟨x,σ,H1,I1,r1,q1⟩)
def y4 (c:TT) (t u:TS):TS:=fun D σ H=>c σ H fun b H1=>if b=true then t D σ H1 else u D σ H1
theorem y9 {c:Expr}{a b:List Stmt}{tc:TT}(hc:PT X c tc) (ha:PSs X a t) (hb:PSs X b u):PS X (.If c a b pos) (y4 tc t u):=by
 intro pins s σ H D I h
 refine wpAny_If (thn (hc pins s σ H _ I h) fun d s1 ⟨H1,I1,q1⟩=>?_)
 cases d with
 | true=>exact ha pins s1 σ H1 D I1 q1
 | false=>exact hb pins s1 σ H1 D I1 q1
def uA:TS:=fun _ _ _=>False
theorem jD:PS X st uA:=fun _ _ _ _ _ _ h=>h.elim
end
abbrev TG:=V->St->Hp->(St->Hp->Prop)->Prop
abbrev TGs:=List V->St->Hp->(St->Hp->Prop)->Prop
def PG (X:Cx) (target:Expr) (t:TG):Prop:=
 ∀(pins:List (Addr×Obj)) (s:Shared) (σ:St) (H:Hp) (v:V) (u:Value) (Q:St->Hp->Prop),Inv X pins σ H s->RelV v u->t v σ H Q ->
   wpAny (model X.prog X.w) X.A (assign target X.env u) (fun _ s'=>∃σ' H',Inv X pins σ' H' s'/\Q σ' H') X.xe s
def PGs (X:Cx) (ts:List Expr) (t:TGs):Prop:=
 ∀(pins:List (Addr×Obj)) (s:Shared) (σ:St) (H:Hp) (vs:List V) (us:List Value) (Q:St->Hp->Prop),Inv X pins σ H s->Vals vs us->t vs σ H Q ->
   wpAny (model X.prog X.w) X.A (assignInOrder ((assignEach ts X.env).map (·.2)) us) (fun _ s'=>∃σ' H',Inv X pins σ' H' s'/\Q σ' H') X.xe s
abbrev uB:=V->V->V->Hp->(Hp->Prop)->Prop
def yB (X:Cx) (t:uB):Prop:=
 ∀(pins:List (Addr×Obj)) (s:Shared) (σ:St) (H:Hp) (o i v:V) (ov iv u:Value) (Q:Hp->Prop),Inv X pins σ H s->RelV o ov->RelV i iv->RelV v u->t o i v H Q ->
   wpAny (model X.prog X.w) X.A (setItem ov iv u) (fun _ s'=>∃H',Inv X pins σ H' s'/\Q H') X.xe s
section
variable {X:Cx}{pos:Pos}
def MP (i:Nat):TG:=fun v σ H Q=>Q (σ.set i (some v)) H
theorem cU {i:Nat}{x:Str}(hN:X.N.Nodup) (hi:X.N[i]?=some x) (hx:Loc X.env.scope x) (hf:X.fn x=true∨X.env.scope.names.lookup x=some .local:=by first | exact .inl rfl | exact .inr rfl | assumption):PG X (.Name x pos) (MP i):=by
 intro pins s σ H v u Q I r h
 exact wpAny_assign_Name (MN I hN hi hx r (fun s' I'=>⟨_,H,I',h⟩) hf)
def oJ:TGs:=fun vs σ H Q=>vs=[]/\Q σ H
def UA (t:TG) (u:TGs):TGs:=fun vs σ H Q=>∃v r,vs=v::r/\t v σ H fun σ' H'=>u r σ' H' Q
theorem oK:PGs X [] oJ:=by
 intro pins s σ H vs us Q I r h
 obtain⟨e,h⟩:=h
 subst e
 cases r
 exact assignInOrder_nil ⟨σ,H,I,h⟩
theorem jE {e:Expr}{es:List Expr}{t:TG}{u:TGs}(h1:PG X e t) (h2:PGs X es u)
   (hs:(assignEach (e::es) X.env).map (·.2)=assign e X.env::(assignEach es X.env).map (·.2):=by rfl):PGs X (e::es) (UA t u):=by
 intro pins s σ H vs us Q I r h
 obtain⟨v,vr,e1,h⟩:=h
 subst e1
 cases r with
 | cons r rr=>
   rw[hs]
   refine assignInOrder_cons (thn (h1 pins s σ H _ _ _ I r h) fun _ s1 ⟨σ1,H1,I1,q1⟩=>?_)
   exact h2 pins s1 σ1 H1 _ _ Q I1 rr q1
def oM (K:Frg) (n:Nat) (t:TGs):TG:=fun v σ H Q=>∃a xs,v = .ref a/\SqT K H a xs/\xs.length=n/\t xs σ H Q
theorem jF {es:List Expr}{k:Nat}{t:TGs}{n:Nat}(hc:X.calm=true) (h:PGs X es t)
   (hn:(assignEach es X.env).length=n:=by rfl) (hst:(assignEach es X.env).findIdx? (·.1)=none:=by rfl):PG X (.Tuple es k pos) (oM X.K n t):=by
 intro pins s σ H v u Q I r hw
 obtain⟨a,xs,e1,hq,hl,hw⟩:=hw
 subst e1
 cases r
 obtain⟨its,rv,ht,hz⟩:=I.tuple hq
 refine assign_Tuple_tuple (I.ok.hd hc) ht (by simp[hn,← hl,rv.length]) hst fun h' hx=>?_
 have I1:Inv X pins σ H { s with heap:=h' }:=I.kept (t':=s.toks) fun b o e=>hx b o (zC (zM e)) e
 exact h pins _ σ H xs _ Q I1 (by simpa using rv) hw
def yC (to ti:TE) (t:uB):TG:=fun v σ H Q=>to σ H fun o H1=>ti σ H1 fun i H2=>t o i v H2 fun H3=>Q σ H3
theorem uC {o i:Expr}{to ti:TE}{t:uB}(ho:PE X o to) (hi:PE X i ti) (hs:yB X t)
   (ha:∀v,assign (.Subscript o i pos) X.env v=(do
     let ov ← holding [v] (eval o X.env)
     let iv ← holding [v,ov] (eval i X.env)
     standAt pos
     holding [v,ov,iv] (setItem ov iv v)
     release [v,ov,iv] []):=by intro _;rfl):PG X (.Subscript o i pos) (yC to ti t):=by
 intro pins s σ H v u Q I r h
 rw[ha]
 refine zZ (wpAny_holding (thn (ho pins s σ H _ I h) fun ov s1 ⟨x,H1,I1,r1,q1⟩=>?_))
 refine zZ (wpAny_holding (thn (hi pins s1 σ H1 _ I1 q1) fun iv s2 ⟨y,H2,I2,r2,q2⟩=>?_))
 refine zZ (wpAny_standAt (zZ (wpAny_holding (thn (hs pins s2 σ H2 x y v ov iv u _ I2 r1 r2 r q2) fun _ s3 ⟨H3,I3,q3⟩=>?_))))
 exact wpAny_release ⟨σ,H3,I3,q3⟩
def jG (te:TE) (g:TG):TS:=fun D σ H=>te σ H fun x H1=>g x σ H1 D.nx
theorem O9 {tg e:Expr}{te:TE}{g:TG}(he:PE X e te) (hg:PG X tg g) (hs:swapsWithSole [tg] e pos.line X.env=pure false:=by rfl) (hw:swappedStores [tg] e X.env=pure none:=by rfl)
   (h1:(assignEach [tg] X.env).map (·.2)=[assign tg X.env]:=by rfl):PS X (.Assign [tg] e pos) (jG te g):=by
 intro pins s σ H D I h
 refine wpAny_Assign_stores (thn (he pins s σ H _ I h) fun v s1 ⟨x,H1,I1,r1,q1⟩=>?_) hs hw
 rw[h1]
 exact thn (hg pins s1 σ H1 x v _ I1 r1 q1) fun _ s2 q=>q
theorem uD {i:Nat}{x:Str}{e:Expr}{te:TE}{pos':Pos}(hN:X.N.Nodup) (hi:X.N[i]?=some x) (hx:Loc X.env.scope x) (he:PE X e te) (hs:swapsWith e (some (.Name x pos')) pos.line X.env=pure false:=by rfl) (hf:X.fn x=true∨X.env.scope.names.lookup x=some .local:=by first | exact .inl rfl | exact .inr rfl | assumption) :
   PS X (.Assign [.Name x pos'] e pos) (jG te (MP i)):=by
 intro pins s σ H D I h
 refine wpAny_Assign_Name (thn (he pins s σ H _ I h) fun v s1 ⟨y,H1,I1,r1,q1⟩=>?_) hs
 exact MN I1 hN hi hx r1 (fun s2 I2=>⟨_,H1,I2,q1⟩) hf
def yE (i j:Nat) (ta:TA):TS:=fun D σ H=>ta σ H fun vs H1=>∃v w,vs=[v,w]/\D.nx ((σ.set i (some v)).set j (some w)) H1
theorem jH {i j:Nat}{x y:Str}{a b:Expr}{ta:TA}{px py pt:Pos}{kt k2 pt2} (hc:X.calm=true) (hN:X.N.Nodup) (hi:X.N[i]?=some x) (hj:X.N[j]?=some y) (hij:i≠j)
   (hx:X.env.scope.names.lookup x=some .local) (hy:X.env.scope.names.lookup y=some .local) (ha:PA X [a,b] ta)
   (hw:swappedStores [.Tuple [.Name x px,.Name y py] kt pt] (.Tuple [a,b] k2 pt2) X.env=pure (some [x,y]))
   (hs:swapsWithSole [.Tuple [.Name x px,.Name y py] kt pt] (.Tuple [a,b] k2 pt2) pos.line X.env=pure false:=by rfl) :
   PS X (.Assign [.Tuple [.Name x px,.Name y py] kt pt] (.Tuple [a,b] k2 pt2) pos) (yE i j ta):=by
 intro pins s σ H D I h
 rw[exec_Assign_arm]
 refine zZ (wpAny_standAt ?_)
 rw[hs]
 refine zZ (zY ?_)
 rw[if_neg (by decide)]
 refine zZ (Tuple_ (thn (ha _ pins s σ H _ I h) fun us s1 ⟨vs,H1,I1,r1,q1⟩=>?_))
 obtain⟨v,w,e1,q1⟩:=q1
 subst e1
 obtain⟨u1,u2,rfl,rv,rw'⟩:∃u1 u2,us=[u1,u2]/\RelV v u1/\RelV w u2:=by
   cases r1 with
   | cons p q=>
     cases q with
     | cons p' q'=>
       cases q'
       exact⟨_,_,rfl,p,p'⟩
 refine xM ?_ (by show 2<=sizeLine;decide)
 have I2:Inv X pins σ H1 { s1 with heap:=s1.heap.push { cls:=.type "tuple", data:=.seq [u1,u2].toArray } }:=I1.kept (t':=s1.toks) fun b o e=>zW _ e
 rw[hw]
 refine zZ (zY ?_)
 show wpAny (model X.prog X.w) X.A (do rule "assign.swapped-stores";let items ← unpackItems (.ref s1.heap.objs.size) 2 none;assignInOrder [fun v=>bindName X.env y v,fun v=>bindName X.env x v] items.reverse;pure Flow.next) _ _ _
 refine zZ (wpAny_rule (zZ (unpackItems_tuple (items:=#[u1,u2]) (I.ok.hd hc) (IsTup.new s1.heap _) fun h' hx'=>?_)))
 have I3:=I2.kept (h':=h') (t':=s1.toks) fun b o e=>hx' b o (zC (zM e)) e
 show wpAny _ _ (assignInOrder [fun v=>bindName X.env y v,fun v=>bindName X.env x v] [u2,u1] >>= fun _=>pure Flow.next) _ _ _
 refine zZ (assignInOrder_cons (wpAny_bindName (MN I3 hN hj (.inl hy) rw' (fun s2 I4=>?_) (.inr hy))))
 refine assignInOrder_cons (wpAny_bindName (MN I4 hN hi (.inl hx) rv (fun s3 I5=>assignInOrder_nil (zY ?_)) (.inr hx)))
 rw[List.set_comm _ _ (b4Z hij)] at I5
 exact⟨_,H1,I5,q1⟩
end
structure It where
 go:Nat->Hp->Prop
 yld:Nat->Hp->V->Hp->Prop
 stop:Nat->Hp->Prop
def LT (X:Cx) (pins:List (Addr×Obj)) (H:Hp) (b:Addr):Prop:=
 H b=none/\b≠X.env.locals/\b∉X.fs/\(b∈X.ex∨X.s₀.heap.objs.size<=b)/\(∀x c,X.env.cells.lookup x=some c->c≠b)/\∀p∈X.pn++pins,p.1≠b
theorem Inv.fpOk {X:Cx}{pins:List (Addr×Obj)}{σ:St}{H H':Hp}{s:Shared}{b:Addr}(I:Inv X pins σ H s) (hb:s.heap.objs.size<=b) (hn:H' b=none):LT X pins H' b:=by
 refine⟨hn,a8Q (zP I.lt hb),I.nofs hb,.inr (zN I.sz hb),fun x c e z=>?_,fun p hp z=>?_⟩
 · obtain⟨v,q⟩:=I.cell x c e
   exact absurd (zP q.lt (by rw[z];exact hb)) (yF _)
 · exact absurd (zP (zM (I.pin p hp).1) (by rw[z];exact hb)) (yF _)
structure Turn (P:Program) (w:World) (K:Frg) (tg:Expr) (J:It) (fp:List Addr) (it:Addr) (tn:Nat->Heap->Prop):Prop where
 mem:it∈fp
 obj:∀i h,tn i h->∀b∈fp,∃o,h.get? b=some o/\∀v,o.data≠.cell v
 keep:∀i h h',tn i h->(∀b∈fp,∀o,h.get? b=some o->h'.get? b=some o)->tn i h'
 item:∀(X:Cx),X.prog=P->X.w=w->X.K=K->X.calm=true->∀(i:Nat) (pins:List (Addr×Obj)) (s:Shared) (σ:St) (H:Hp) (E:Value->Shared->Prop),Inv X pins σ H s->(∀b∈fp,LT X pins H b)->tn i s.heap->J.go i H ->
   wpAny (model P w) X.A (pyNext (.ref it)) (fun r s1=>∃u,r=some u /\
     wpAny (model P w) X.A (letOwnedTupleGo tg (.ref it) u) (fun _ s2=>∃x H',Inv X pins σ H' s2/\RelV x u/\J.yld i H x H'/\tn (i+1) s2.heap/\∀b∈fp,H' b=none) E s1) E s
 done:∀(X:Cx),X.prog=P->X.w=w->X.K=K->X.calm=true->∀(i:Nat) (pins:List (Addr×Obj)) (s:Shared) (σ:St) (H:Hp) (E:Value->Shared->Prop),Inv X pins σ H s->(∀b∈fp,LT X pins H b)->tn i s.heap->J.stop i H ->
   wpAny (model P w) X.A (pyNext (.ref it)) (fun r s1=>r=none/\Inv X pins σ H s1) E s
 self:∀(A:Around) (i:Nat) (s:Shared) (Q:Value->Shared->Prop) (E:Value->Shared->Prop),tn i s.heap->Q (.ref it) s->wpAny (model P w) A (pyIter (.ref it)) Q E s
abbrev TI:=St->Hp->(It->Hp->Prop)->Prop
def PIE (X:Cx) (pins:List (Addr×Obj)) (σ:St) (tg:Expr) (R:It->Hp->Prop) (itv:Value) (s2:Shared):Prop:=
 ∃(it:Addr) (fp:List Addr) (tn:Nat->Heap->Prop) (J:It) (H':Hp),itv = .ref it/\Inv X pins σ H' s2/\Turn X.prog X.w X.K tg J fp it tn/\tn 0 s2.heap/\(∀b∈fp,LT X pins H' b)/\R J H'
def PI (X:Cx) (tg iter:Expr) (wi:TI):Prop:=
 ∀(pins:List (Addr×Obj)) (s:Shared) (σ:St) (H:Hp) (R:It->Hp->Prop),Inv X pins σ H s->wi σ H R ->
   wpAny (model X.prog X.w) X.A (eval iter X.env) (fun v s1=>wpAny (model X.prog X.w) X.A (pyIter v) (PIE X pins σ tg R) X.xe s1) X.xe s
theorem cV {M:Model}{A:Around}{E:Value->Shared->Prop}{s:Shared}{tg:Expr}{it:Addr}{u:Value}{o:Obj}{n:String}{vs:Array Value}{Q:Unit->Shared->Prop}(ho:s.heap.get? it=some o) (hc:o.cls = .type n) (hd:o.data = .fields vs)
   (hn:["enumerate", "zip", "dict_itemiterator", "dict_reverseitemiterator", "odict_iterator", "itertools.zip_longest", "itertools.pairwise"].contains n=false) (hQ:Q () s):wpAny M A (letOwnedTupleGo tg (.ref it) u) Q E s:=by
 unfold letOwnedTupleGo
 cases tg <;> first
   | exact zY hQ
   | (cases u <;> first
       | exact zY hQ
       | (refine zZ (wpAny_load ho ?_)
          rw[hc,hd]
          show wpAny M A (if (["enumerate", "zip", "dict_itemiterator", "dict_reverseitemiterator", "odict_iterator", "itertools.zip_longest", "itertools.pairwise"].contains n&&vs[0]?==some (rawInt _))=true then _ else _) Q E s
          rw[if_neg (by intro h;rw[hn,Bool.false_and] at h;cases h)]
          exact zY hQ))
def Itl (K:Frg) (a:Addr):It:=
 ⟨fun i H=>∃xs x,SqL K H a xs/\xs[i]?=some x,fun i H x H'=>H'=H/\∀xs,SqL K H a xs->xs[i]?=some x,fun i H=>∃xs,SqL K H a xs/\xs.length<=i⟩
def Itt (K:Frg) (a:Addr):It:=
 ⟨fun i H=>∃xs x,SqT K H a xs/\xs[i]?=some x,fun i H x H'=>H'=H/\∀xs,SqT K H a xs->xs[i]?=some x,fun i H=>∃xs,SqT K H a xs/\xs.length<=i⟩
def Itr (lo:Int) (n:Nat):It:=⟨fun i _=>i < n,fun i H x H'=>H'=H/\x = .int (lo+i),fun i _=>n<=i⟩
theorem fR {P:Program}{w:World}{K:Frg}{tg:Expr}(a it:Addr):Turn P w K tg (Itl K a) [it] it (fun i h=>h.IsListIter it a i) where
 mem:=by simp
 obj:=fun i h st b hb=>by
   have e:b=it:=by simpa using hb
   subst e
   obtain⟨o,e,c,d⟩:=st
   exact⟨o,e,fun v z=>by rw[d] at z;cases z⟩
 keep:=fun i h h' st k=>st.at fun o e=>k it (by simp) o e
 item:=by
   intro X hP hw hK hc i pins s σ H E I hf st hg
   subst hP hw hK
   obtain⟨xs,x,hq,hx⟩:=hg
   obtain⟨its,rv,p,hz⟩:=I.list hq
   obtain⟨u,hu,ru⟩:=rv.get hx
   obtain⟨f0,f1,f2,f3,f4,f5⟩:=hf it (by simp)
   refine wpAny_pyNext_list_item st p.isList (x:=u) (by simpa using hu) fun h' st' sb=>?_
   have I1:Inv X pins σ H { s with heap:=h' }:=I.turned (t':=s.toks) (fun b o hb e=>(sb.2 b hb).trans e) f0 f1 f3 f4 f5
   obtain⟨o,e,c,d⟩:=id st'
   exact⟨u,rfl,cV (s:={ s with heap:=h' }) e c d (by decide) ⟨x,H,I1,ru,⟨rfl,fun ys hy=>by rw[I.list_inj hy hq];exact hx⟩,st',fun b hb=>(hf b hb).1⟩⟩
 done:=by
   intro X hP hw hK hc i pins s σ H E I hf st hg
   subst hP hw hK
   obtain⟨xs,hq,hx⟩:=hg
   obtain⟨its,rv,p,hz⟩:=I.list hq
   obtain⟨f0,f1,f2,f3,f4,f5⟩:=hf it (by simp)
   have hl:=rv.length
   exact wpAny_pyNext_list_end (I.ok.hd hc) st p.isList (by simp;omega) fun h' eb=>⟨rfl,I.turned (t':=s.toks) (fun b o hb e=>eb b o hb e) f0 f1 f3 f4 f5⟩
 self:=fun _ _ _ _ _ st h=>wpAny_pyIter_listiter st h
theorem aJ {P:Program}{w:World}{K:Frg}{tg:Expr}(a it:Addr):Turn P w K tg (Itt K a) [it] it (fun i h=>h.IsTupleIter it a i) where
 mem:=by simp
 obj:=fun i h st b hb=>by
   have e:b=it:=by simpa using hb
   subst e
   obtain⟨o,e,c,d⟩:=st
   exact⟨o,e,fun v z=>by rw[d] at z;cases z⟩
 keep:=fun i h h' st k=>st.at fun o e=>k it (by simp) o e
 item:=by
   intro X hP hw hK hc i pins s σ H E I hf st hg
   subst hP hw hK
   obtain⟨xs,x,hq,hx⟩:=hg
   obtain⟨its,rv,p,hz⟩:=I.tuple hq
   obtain⟨u,hu,ru⟩:=rv.get hx
   obtain⟨f0,f1,f2,f3,f4,f5⟩:=hf it (by simp)
   refine wpAny_pyNext_tuple_item st (show s.heap.IsTuple a its.toArray from p) (x:=u) (by simpa using hu) fun h' st' sb=>?_
   have I1:Inv X pins σ H { s with heap:=h' }:=I.turned (t':=s.toks) (fun b o hb e=>(sb.2 b hb).trans e) f0 f1 f3 f4 f5
   obtain⟨o,e,c,d⟩:=id st'
   exact⟨u,rfl,cV (s:={ s with heap:=h' }) e c d (by decide) ⟨x,H,I1,ru,⟨rfl,fun ys hy=>by rw[I.tuple_inj hy hq];exact hx⟩,st',fun b hb=>(hf b hb).1⟩⟩
 done:=by
   intro X hP hw hK hc i pins s σ H E I hf st hg
   subst hP hw hK
   obtain⟨xs,hq,hx⟩:=hg
   obtain⟨its,rv,p,hz⟩:=I.tuple hq
   obtain⟨f0,f1,f2,f3,f4,f5⟩:=hf it (by simp)
   have hl:=rv.length
   exact wpAny_pyNext_tuple_end (I.ok.hd hc) st (show s.heap.IsTuple a its.toArray from p) (by simp;omega) fun h' eb=>⟨rfl,I.turned (t':=s.toks) (fun b o hb e=>eb b o hb e) f0 f1 f3 f4 f5⟩
 self:=fun _ _ _ _ _ st h=>wpAny_pyIter_tupleiter st h
theorem aK {P:Program}{w:World}{K:Frg}{tg:Expr}(it:Addr) (lo:Int) (n:Nat):Turn P w K tg (Itr lo n) [it] it (fun i h=>IsRangeIter h it (lo+(i:Nat)*1) ((n:Int) - (i:Nat)) 1) where
 mem:=by simp
 obj:=fun i h st b hb=>by
   have e:b=it:=by simpa using hb
   subst e
   exact⟨_,st,fun v z=>by
     have z':Data.fields _=Data.cell v:=z
     cases z'⟩
 keep:=fun i h h' st k=>k it (by simp) _ st
 item:=by
   intro X hP hw hK hc i pins s σ H E I hf st hg
   subst hP hw hK
   obtain⟨f0,f1,f2,f3,f4,f5⟩:=hf it (by simp)
   have W:=Walks.range (prog:=X.prog) (w:=X.w) (I.ok.hd hc) it lo 1 n
   refine W.item i s _ _ hg st fun v h' tk hv st' kk=>?_
   obtain⟨t,rfl⟩:=hv
   have I1:Inv X pins σ H { s with heap:=h',toks:=tk }:=I.turned (fun b o hb e=>kk b o (by simpa using hb) e) f0 f1 f3 f4 f5
   refine⟨_,rfl,cV (s:={ s with heap:=h',toks:=tk }) (n:= "range_iterator") st' rfl rfl (by decide) ⟨.int (lo+i),H,I1,⟨t,?_⟩,⟨rfl,rfl⟩,st',fun b hb=>(hf b hb).1⟩⟩
   rw[Int.mul_one]
 done:=by
   intro X hP hw hK hc i pins s σ H E I hf st hg
   subst hP hw hK
   obtain⟨f0,f1,f2,f3,f4,f5⟩:=hf it (by simp)
   exact wpAny_pyNext_range_end (I.ok.hd hc) st (by have:n<=i:=hg;omega) fun h' eb=>⟨rfl,I.turned (t':=s.toks) (fun b o hb e=>eb b o hb e) f0 f1 f3 f4 f5⟩
 self:=fun _ _ _ _ _ st h=>wpAny_pyIter_rangeiter st h
section
variable {X:Cx}{tg:Expr}
theorem XJ {pins:List (Addr×Obj)}{σ:St}{H:Hp}{s:Shared}{R:It->Hp->Prop}{E:Value->Shared->Prop}{lo hi:Int}{t u v:Tok}{tk:Nat}(I:Inv X pins σ H s) (h1 : -(2 ^ 62)<=lo) (h2:lo < 2 ^ 62) (h3 : -(2 ^ 62)<=hi) (h4:hi < 2 ^ 62)
   (q:R (Itr lo (hi - lo).toNat) H):wpAny (model X.prog X.w) X.A (pyIter (.ref s.heap.objs.size)) (PIE X pins σ tg R) E { s with heap:=s.heap.push { cls:=.type "range", data:=.fields #[.int lo t,.int hi u,.int 1 v] },toks:=tk }:=by
 refine wpAny_pyIter_range (IsRange.new ..) (small_one h1 h2 h3 h4) ?_
 have I1:Inv X pins σ H { s with heap:=s.heap.push { cls:=.type "range", data:=.fields #[.int lo t,.int hi u,.int 1 v] },toks:=tk }:=I.kept fun b o e=>zW _ e
 refine⟨(s.heap.push { cls:=.type "range", data:=.fields #[.int lo t,.int hi u,.int 1 v] }).objs.size,[(s.heap.push { cls:=.type "range", data:=.fields #[.int lo t,.int hi u,.int 1 v] }).objs.size],_,_,H,rfl,
   I1.kept (t':=tk) fun b o e=>zW _ e,aK _ lo (hi - lo).toNat,?_,fun b hb=>?_,q⟩
 · have e1:lo+((0:Nat):Int)*1=lo:=by simp
   have e2:(((hi - lo).toNat:Nat):Int) - ((0:Nat):Int)=Builtin.Range.rangeSize lo hi 1:=by rw[rangeSize_one];split <;> omega
   show IsRangeIter _ _ (lo+((0:Nat):Int)*1) ((((hi - lo).toNat:Nat):Int) - ((0:Nat):Int)) 1
   rw[e1,e2]
   exact yZ _ rfl
 · have e:b=(s.heap.push { cls:=.type "range", data:=.fields #[.int lo t,.int hi u,.int 1 v] }).objs.size:=by simpa using hb
   subst e
   exact I1.fpOk (zR _) (I1.hok.fresh (zR _))
def sU (ta:TA):TI:=fun σ H R=>ta σ H fun vs H1=>∃j:Int,vs=[.int j]/\-(2 ^ 62)<=j/\j < 2 ^ 62/\R (Itr 0 j.toNat) H1
def sV (ta:TA):TI:=fun σ H R=>ta σ H fun vs H1=>∃i j:Int,vs=[.int i,.int j]/\(-(2 ^ 62)<=i/\i < 2 ^ 62/\-(2 ^ 62)<=j/\j < 2 ^ 62)/\R (Itr i (j - i).toNat) H1
theorem fS {a:Expr}{ta:TA}{p pos:Pos}(hg:Gl X "range") (hm:X.mg "range"=none) (ha:PA X [a] ta) (hs:starEach [a] X.env=[(false,eval a X.env)]:=by rfl):PI X tg (.Call (.Name "range" p) [a] [] pos) (sU ta):=by
 intro pins s σ H R I h
 refine Call_ (GZ I hg hm boot_range (xH (thn (ha pos pins s σ H _ I h) fun us s1 ⟨vs,H1,I1,r1,q1⟩=>?_) hs rfl))
 obtain⟨j,e,q1,q2,q⟩:=q1
 subst e
 cases r1 with
 | cons r rr=>
   cases rr
   obtain⟨t,rfl⟩:=r
   exact call_range_1 (XJ I1 (by omega) (by omega) q1 q2 (by simpa using q))
theorem fT {a b:Expr}{ta:TA}{p pos:Pos}(hg:Gl X "range") (hm:X.mg "range"=none) (ha:PA X [a,b] ta) (hs:starEach [a,b] X.env=[(false,eval a X.env),(false,eval b X.env)]:=by rfl) (hs2:starEach [b] X.env=[(false,eval b X.env)]:=by rfl) :
   PI X tg (.Call (.Name "range" p) [a,b] [] pos) (sV ta):=by
 intro pins s σ H R I h
 refine Call_ (GZ I hg hm boot_range (xH (thn (ha pos pins s σ H _ I h) fun us s1 ⟨vs,H1,I1,r1,q1⟩=>?_) (by rw[hs,hs2]) (by rw[hs2];rfl)))
 obtain⟨i,j,e,⟨q1,q2,q3,q4⟩,q⟩:=q1
 subst e
 cases r1 with
 | cons r rr=>
   cases rr with
   | cons r' rr=>
     cases rr
     obtain⟨t,rfl⟩:=r
     obtain⟨t',rfl⟩:=r'
     exact call_range_2 (XJ I1 q1 q2 q3 q4 q)
def yK (wi:TI) (g:TG) (tb:TS):TS:=fun D σ H=>wi σ H fun J H1=>∃W:Nat->Nat->St->Hp->Prop,(∃m,W 0 m σ H1)/\∀i m σ H,W i m σ H ->
 (J.stop i H/\D.nx σ H)∨(J.go i H/\∃N:St->Hp->Prop,(∀σ' H',N σ' H'->∃m',m' < m/\W (i+1) m' σ' H')/\∀x H',J.yld i H x H'->g x σ H' fun σ2 H2=>tb { D with nx:=N,ct:=N,bk:=D.nx } σ2 H2)
def OB (fp:List Addr) (h:Heap):List (Addr×Obj):=fp.filterMap fun b=>(h.get? b).map fun o=>(b,o)
theorem E8 {fp:List Addr}{h:Heap}{b:Addr}{o:Obj}(hb:b∈fp) (e:h.get? b=some o):(b,o)∈OB fp h:=List.mem_filterMap.mpr ⟨b,hb,by rw[e];rfl⟩
theorem fU {fp:List Addr}{h:Heap}{p:Addr×Obj}(hp:p∈OB fp h):p.1∈fp/\h.get? p.1=some p.2:=by
 obtain⟨b,hb,e⟩:=List.mem_filterMap.mp hp
 cases q:h.get? b with
 | none=>rw[q] at e;cases e
 | some o=>
   rw[q] at e
   have e':(b,o)=p:=Option.some.inj e
   subst e'
   exact⟨hb,q⟩
theorem Inv.pinned {pins:List (Addr×Obj)}{σ:St}{H:Hp}{s:Shared}{fp:List Addr}(I:Inv X pins σ H s) (hf:∀b∈fp,LT X pins H b) (ho:∀b∈fp,∃o,s.heap.get? b=some o/\∀v,o.data≠.cell v):Inv X (pins++OB fp s.heap) σ H s:=
 I.pins_of fun p hp=>(yW.mp hp).elim (fun z=>I.pin p (zB _ z)) fun z=>by
   obtain⟨hb,e⟩:=fU z
   obtain⟨f0,f1,f2,_⟩:=hf p.1 hb
   obtain⟨o,e',d⟩:=ho p.1 hb
   rw[e] at e';cases e'
   exact⟨e,f0,f1,f2,d⟩
theorem Inv.unpinned {pins pl:List (Addr×Obj)}{σ:St}{H:Hp}{s:Shared}(I:Inv X (pins++pl) σ H s):Inv X pins σ H s:=I.pins_of fun p hp=>I.pin p (zB _ (zA _ hp))
theorem uE {iter:Expr}{body:List Stmt}{wi:TI}{g:TG}{tb:TS}{pos:Pos}(hp:PassesOwn (model X.prog X.w) X.A X.env X.xe) (hc:X.calm=true) (hi:PI X tg iter wi) (hg:PG X tg g) (hb:PSs X body tb)
   (hs:∀x,foldedSetIterable iter X.env x=pure x:=by intro _;rfl):PS X (.For tg iter body [] pos) (yK wi g tb):=by
 intro pins s σ H D I h
 refine wpAny_For (thn (hi pins s σ H _ I h) fun v s1 h1=>thn h1 fun itv s2 h2=>?_) hs
 obtain⟨it,fp,tn,J,H2,e,I2,T,st2,f2,W,⟨m0,w0⟩,turn⟩:=h2
 subst e
 have stat:∀{H':Hp},(∀b∈fp,H' b=none)->∀b∈fp,LT X pins H' b:=fun hn b hb=>⟨hn b hb,(f2 b hb).2⟩
 refine codeAny_forLoop_any (fun n s'=>∃i σ' H',Inv X pins σ' H' s'/\tn i s'.heap/\(∀b∈fp,H' b=none)/\W i n σ' H') ?_ m0 ⟨0,σ,H2,I2,st2,fun b hb=>(f2 b hb).1,w0⟩
 rintro n s3 ⟨i,σ3,H3,I3,st3,fr3,w3⟩
 rcases turn i n σ3 H3 w3 with ⟨stop,qn⟩ | ⟨go,N,hN,step⟩
 · refine wpAny_passesOwn hp (thn (T.done X rfl rfl rfl hc i pins s3 σ3 H3 X.xe I3 (stat fr3) st3 stop) fun r s4 ⟨hr,I4⟩=>?_)
   subst hr
   exact wpAny_execs_nil ⟨σ3,H3,I4,qn⟩
 · refine wpAny_passesOwn hp (thn (T.item X rfl rfl rfl hc i pins s3 σ3 H3 X.xe I3 (stat fr3) st3 go) fun r s4 ⟨u,hr,h4⟩=>?_)
   subst hr
   refine wpAny_passesOwn hp (thn h4 fun _ s5 ⟨x,H5,I5,r5,y5,st5,fr5⟩=>?_)
   have I5':=I5.pinned (stat fr5) (T.obj _ _ st5)
   refine wpAny_passesOwn hp (thn (hg _ s5 σ3 H5 x u _ I5' r5 (step x H5 y5)) fun _ s6 ⟨σ6,H6,I6,q6⟩=>?_)
   refine wpAny_passesOwn hp (thn (hb _ s6 σ6 H6 _ I6 q6) fun f s7 q7=>?_)
   have again:∀{σ7:St}{H7:Hp},Inv X (pins++OB fp s5.heap) σ7 H7 s7->N σ7 H7->∃m,m < n/\∃i σ' H',Inv X pins σ' H' s7/\tn i s7.heap/\(∀b∈fp,H' b=none)/\W i m σ' H':=fun {σ7 H7} I7 n7=>by
     obtain⟨m',hm,w7⟩:=hN σ7 H7 n7
     refine⟨m',hm,i+1,σ7,H7,I7.unpinned,T.keep _ _ _ st5 fun b hb o e=>(I7.pin (b,o) (zB _ (zB _ (E8 hb e)))).1,fun b hb=>?_,w7⟩
     obtain⟨o,e,d⟩:=T.obj _ _ st5 b hb
     exact(I7.pin (b,o) (zB _ (zB _ (E8 hb e)))).2.1
   cases f with
   | next=>obtain⟨σ7,H7,I7,n7⟩:=q7;exact again I7 n7
   | cont=>obtain⟨σ7,H7,I7,n7⟩:=q7;exact again I7 n7
   | brk=>obtain⟨σ7,H7,I7,q7⟩:=q7;exact⟨σ7,H7,I7.unpinned,q7⟩
   | ret v=>obtain⟨x7,σ7,H7,I7,r7,q7⟩:=q7;exact⟨x7,σ7,H7,I7.unpinned,r7,q7⟩
end
abbrev R2:=V->V->Hp->VK->Prop
def OpR (X:Cx) (f:Value->Value->Sem Value) (r:R2):Prop:=
 ∀(pins:List (Addr×Obj)) (s:Shared) (σ:St) (H:Hp) (x y:V) (v u:Value) (Q:VK),Inv X pins σ H s->RelV x v->RelV y u->r x y H Q ->
   wpAny (model X.prog X.w) X.A (f v u) (EP X pins σ Q) X.xe s
def UnR (X:Cx) (f:Value->Sem Value) (r:V->Hp->VK->Prop):Prop:=
 ∀(pins:List (Addr×Obj)) (s:Shared) (σ:St) (H:Hp) (x:V) (v:Value) (Q:VK),Inv X pins σ H s->RelV x v->r x H Q ->
   wpAny (model X.prog X.w) X.A (f v) (EP X pins σ Q) X.xe s
def BO (X:Cx) (f:Value) (r:List V->Hp->VK->Prop):Prop:=
 ∀(pins:List (Addr×Obj)) (s:Shared) (σ:St) (H:Hp) (xs:List V) (us:List Value) (Q:VK),Inv X pins σ H s->Vals xs us->r xs H Q ->
   wpAny (model X.prog X.w) X.A (call f us) (EP X pins σ Q) X.xe s
def tOp (r:R2) (ta tb:TE):TE:=fun σ H Q=>ta σ H fun x H1=>tb σ H1 fun y H2=>r x y H2 Q
def tUn (r:V->Hp->VK->Prop) (ta:TE):TE:=fun σ H Q=>ta σ H fun x H1=>r x H1 Q
def rI (C:Int->Int->Prop) (g:Int->Int->V):R2:=fun x y H Q=>∃i j,x = .int i/\y = .int j/\C i j/\Q (g i j) H
def rI0 (g:Int->Int->V):R2:=fun x y H Q=>∃i j,x = .int i/\y = .int j/\Q (g i j) H
def rU (g:Int->V):V->Hp->VK->Prop:=fun x H Q=>∃i,x = .int i/\Q (g i) H
section
variable {X:Cx}{a b c:Expr}{ta tb tc:TE}{pos:Pos}
theorem uF (ha:PE X a ta) (hb:PE X b tb) {pins:List (Addr×Obj)}{s:Shared}{σ:St}{H:Hp}{R:V->V->Hp->Prop}(I:Inv X pins σ H s)
   (h:ta σ H fun x H1=>tb σ H1 fun y H2=>R x y H2) {Q:Value->Shared->Prop}{f:Value->Value->Sem Value}
   (hf:∀v u s2 x y H2,Inv X pins σ H2 s2->RelV x v->RelV y u->R x y H2->wpAny (model X.prog X.w) X.A (f v u) Q X.xe s2) :
   wpAny (model X.prog X.w) X.A (eval a X.env) (fun v s₁=>wpAny (model X.prog X.w) X.A (eval b X.env) (fun u s₂=>wpAny (model X.prog X.w) X.A (f v u) Q X.xe s₂) X.xe s₁) X.xe s:=by
 refine thn (ha pins s σ H _ I h) fun v s1 ⟨x,H1,I1,r1,q1⟩=>?_
 refine thn (hb pins s1 σ H1 _ I1 q1) fun u s2 ⟨y,H2,I2,r2,q2⟩=>?_
 exact hf v u s2 x y H2 I2 r1 r2 q2
theorem R0 {op:Operator}{r:R2}(ho:OpR X (binaryOp op) r) (ha:PE X a ta) (hb:PE X b tb):PE X (.BinOp a op b pos) (tOp r ta tb):=by
 intro pins s σ H Q I h
 exact wpAny_BinOp (uF ha hb I h fun v u s2 x y H2 I2 rx ry q=>ho pins s2 σ H2 x y v u Q I2 rx ry q)
theorem yO {op:UnaryOp}{r:V->Hp->VK->Prop}(ho:UnR X (unaryOp op) r) (ha:PE X a ta):PE X (.UnaryOp op a pos) (tUn r ta):=by
 intro pins s σ H Q I h
 exact UnaryOp_ (thn (ha pins s σ H _ I h) fun v s1 ⟨x,H1,I1,r1,q1⟩=>ho pins s1 σ H1 x v Q I1 r1 q1)
theorem opI {f:Value->Value->Sem Value}{C:Int->Int->Prop}{g:Int->Int->Int}
   (rule:∀(i j:Int) (t u:Tok) (s:Shared) (Q:Value->Shared->Prop) (E:Value->Shared->Prop),C i j->Q (.int (g i j) s.toks) { s with toks:=s.toks+1 }->wpAny (model X.prog X.w) X.A (f (.int i t) (.int j u)) Q E s) :
   OpR X f (rI C fun i j=>.int (g i j)):=by
 intro pins s σ H x y v u Q I rx ry h
 obtain⟨i,j,rfl,rfl,hc,q⟩:=h
 obtain⟨t,rfl⟩:=rx
 obtain⟨t',rfl⟩:=ry
 exact rule i j t t' s _ _ hc ⟨.int (g i j),H,I.tok _,⟨_,rfl⟩,q⟩
theorem yS {f:Value->Value->Sem Value}{g:Int->Int->Int}
   (rule:∀(i j:Int) (t u:Tok) (s:Shared) (Q:Value->Shared->Prop) (E:Value->Shared->Prop),Q (.int (g i j) s.toks) { s with toks:=s.toks+1 }->wpAny (model X.prog X.w) X.A (f (.int i t) (.int j u)) Q E s) :
   OpR X f (rI0 fun i j=>.int (g i j)):=by
 intro pins s σ H x y v u Q I rx ry h
 obtain⟨i,j,rfl,rfl,q⟩:=h
 obtain⟨t,rfl⟩:=rx
 obtain⟨t',rfl⟩:=ry
 exact rule i j t t' s _ _ ⟨.int (g i j),H,I.tok _,⟨_,rfl⟩,q⟩
theorem z0 {f:Value->Value->Sem Value}{g:Int->Int->Bool}
   (rule:∀(i j:Int) (t u:Tok) (s:Shared) (Q:Value->Shared->Prop) (E:Value->Shared->Prop),Q (.bool (g i j)) s->wpAny (model X.prog X.w) X.A (f (.int i t) (.int j u)) Q E s) :
   OpR X f (rI0 fun i j=>.bl (g i j)):=by
 intro pins s σ H x y v u Q I rx ry h
 obtain⟨i,j,rfl,rfl,q⟩:=h
 obtain⟨t,rfl⟩:=rx
 obtain⟨t',rfl⟩:=ry
 exact rule i j t t' s _ _ ⟨.bl (g i j),H,I,rfl,q⟩
def z6 (i j:Int):Prop:=0 < j/\j < 1073741824
def z7 (i j:Int):Prop:=0<=j/\j<=1000000/\i.natAbs < 2 ^ 64
theorem uG:OpR X (binaryOp .Add) (rI0 fun i j=>.int (i+j)):=yS fun _ _ _ _ _ _ _ q=>add_int q
theorem uH:OpR X (binaryOp .Sub) (rI0 fun i j=>.int (i - j)):=yS fun _ _ _ _ _ _ _ q=>sub_int q
theorem uI:OpR X (binaryOp .Mod) (rI (fun _ j=>0 < j) fun i j=>.int (i % j)):=opI fun i j _ _ _ _ _ hc q=>by
 have h1:(0:Int) < j:=hc
 exact mod_int' (by omega) (by rw[Int.fmod_eq_emod_of_nonneg i (by omega)];exact q)
theorem uJ:OpR X (binaryOp .Pow) (rI z7 fun i j=>.int (i ^ j.toNat)):=opI fun _ _ _ _ _ _ _ hc q=>pow_int_small hc.1 hc.2.1 hc.2.2 q
theorem unI {f:Value->Sem Value}{g:Int->Int}
   (rule:∀(i:Int) (t:Tok) (s:Shared) (Q:Value->Shared->Prop) (E:Value->Shared->Prop),Q (.int (g i) s.toks) { s with toks:=s.toks+1 }->wpAny (model X.prog X.w) X.A (f (.int i t)) Q E s) :
   UnR X f (rU fun i=>.int (g i)):=by
 intro pins s σ H x v Q I rx h
 obtain⟨i,rfl,q⟩:=h
 obtain⟨t,rfl⟩:=rx
 exact rule i t s _ _ ⟨.int (g i),H,I.tok _,⟨_,rfl⟩,q⟩
theorem uK:UnR X (unaryOp .USub) (rU fun i=>.int (-i)):=unI fun _ _ _ _ _ q=>neg_int q
theorem aL {pins:List (Addr×Obj)}{σ:St}{H:Hp}{s:Shared}{Q:VK}{k k':Bool}(I:Inv X pins σ H s) (q:Q (.bl k) H) (e:k=k'):EP X pins σ Q (.bool k') s:=by
 subst e
 exact⟨.bl k,H,I,rfl,q⟩
theorem cW:OpR X (compareOp .LtE) (rI0 fun i j=>.bl (decide (i<=j))):=z0 fun _ _ _ _ _ _ _ q=>le_int q
theorem sW:OpR X (compareOp .Gt) (rI0 fun i j=>.bl (decide (j < i))):=z0 fun _ _ _ _ _ _ _ q=>gt_int q
theorem fV:OpR X (compareOp .In) (fun x y H Q=>∃i j,x = .str i/\y = .str j/\Q (.bl (!(a5J j i 0 j.length 1).isEmpty)) H):=by
 intro pins s σ H x y v u Q I rx ry h
 obtain⟨i,j,rfl,rfl,q⟩:=h
 obtain⟨t,rfl⟩:=rx
 obtain⟨t',rfl⟩:=ry
 exact in_str (aL I q rfl)
theorem uL:OpR X (compareOp .Is) (fun x y H Q=>y = .non/\Q (.bl (decide (x = .non))) H):=by
 intro pins s σ H x y v u Q I rx ry h
 obtain⟨rfl,q⟩:=h
 cases ry
 refine is_none_gen (aL I q ?_)
 cases x <;> first
   | (cases rx;rfl)
   | (obtain⟨t,rfl⟩:=rx;rfl)
theorem oN:OpR X (compareOp .IsNot) (fun x y H Q=>y = .non/\Q (.bl (!decide (x = .non))) H):=by
 intro pins s σ H x y v u Q I rx ry h
 obtain⟨rfl,q⟩:=h
 cases ry
 refine isnot_none_gen (aL I q ?_)
 cases x <;> first
   | (cases rx;rfl)
   | (obtain⟨t,rfl⟩:=rx;rfl)
theorem OpR.or {f:Value->Value->Sem Value}{r r':R2}(h:OpR X f r) (h':OpR X f r'):OpR X f (fun x y H Q=>r x y H Q∨r' x y H Q):=by
 intro pins s σ H x y v u Q I rx ry q
 rcases q with q | q
 · exact h pins s σ H x y v u Q I rx ry q
 · exact h' pins s σ H x y v u Q I rx ry q
theorem H0 (b:Expr) {op:CmpOp}(h:op≠.In:=by decide) (h2:op≠.NotIn:=by decide):behindInMarks op b=false:=by
 have e1:(op==CmpOp.In)=false:=by cases op <;> first | rfl | exact absurd rfl h
 have e2:(op==CmpOp.NotIn)=false:=by cases op <;> first | rfl | exact absurd rfl h2
 cases b <;> simp[behindInMarks,e1,e2]
theorem FC {op:CmpOp}{r:R2}(ho:OpR X (compareOp op) r) (ha:PE X a ta) (hb:PE X b tb) (hm:behindInMarks op b=false):PE X (.Compare a [op] [b] pos) (tOp r ta tb):=by
 intro pins s σ H Q I h
 exact wpAny_Compare1 (uF ha hb I h fun v u s2 x y H2 I2 rx ry q=>ho pins s2 σ H2 x y v u Q I2 rx ry q) hm
def jI (t:TE):TT:=fun σ H Q=>t σ H fun x H'=>∃k,x = .bl k/\Q k H'
theorem CL {op:CmpOp}{r:R2}(ho:OpR X (compareOp op) r) (ha:PE X a ta) (hb:PE X b tb) (hm:behindInMarks op b=false):PT X (.Compare a [op] [b] pos) (jI (tOp r ta tb)):=by
 intro pins s σ H Q I h
 refine wpAny_isTrue_Compare1 (thn (ha pins s σ H _ I h) fun v s1 ⟨x,H1,I1,r1,q1⟩=>thn (hb pins s1 σ H1 _ I1 q1) fun u s2 ⟨y,H2,I2,r2,q2⟩=>
   thn (ho pins s2 σ H2 x y v u _ I2 r1 r2 q2) fun c s3 ⟨z,H3,I3,r3,k,e,q3⟩=>?_) hm
 subst e
 cases r3
 exact wpAny_truthy_bool ⟨H3,I3,q3⟩
def aM (r r':R2) (ta tb tc:TE):TE:=fun σ H Q=>ta σ H fun x H1=>tb σ H1 fun y H2=>r x y H2 fun z H3=>∃k,z = .bl k /\
 (if k=true then tc σ H3 fun w' H4=>r' y w' H4 Q else Q (.bl false) H3)
theorem jJ {op op':CmpOp}{r r':R2}(ho:OpR X (compareOp op) r) (ho':OpR X (compareOp op') r') (ha:PE X a ta) (hb:PE X b tb) (hc:PE X c tc)
   (hm:lastMarks [op,op'] [b,c]=false:=by with_unfolding_all rfl):PE X (.Compare a [op,op'] [b,c] pos) (aM r r' ta tb tc):=by
 intro pins s σ H Q I h
 refine Compare_chain (thn (ha pins s σ H _ I h) fun v s1 ⟨x,H1,I1,r1,q1⟩=>chain_link (thn (hb pins s1 σ H1 _ I1 q1) fun u s2 ⟨y,H2,I2,r2,q2⟩=>
   thn (ho pins s2 σ H2 x y v u _ I2 r1 r2 q2) fun d s3 ⟨z,H3,I3,r3,k,e,q3⟩=>?_)) hm
 subst e
 cases r3
 refine wpAny_truthy_bool ?_
 cases k with
 | false=>exact ite_ff ⟨.bl false,H3,I3,rfl,q3⟩
 | true=>exact ite_tt (chain_last (thn (hc pins s3 σ H3 _ I3 q3) fun w' s4 ⟨z',H4,I4,r4,q4⟩=>ho' pins s4 σ H4 y z' u w' Q I4 r2 r4 q4))
theorem jK {op op':CmpOp}{r r':R2}(ho:OpR X (compareOp op) r) (ho':OpR X (compareOp op') r') (ha:PE X a ta) (hb:PE X b tb) (hc:PE X c tc)
   (hm:lastMarks [op,op'] [b,c]=false:=by with_unfolding_all rfl):PT X (.Compare a [op,op'] [b,c] pos) (jI (aM r r' ta tb tc)):=by
 intro pins s σ H Q I h
 refine isTrue_chain (thn (ha pins s σ H _ I h) fun v s1 ⟨x,H1,I1,r1,q1⟩=>test_link (thn (hb pins s1 σ H1 _ I1 q1) fun u s2 ⟨y,H2,I2,r2,q2⟩=>
   thn (ho pins s2 σ H2 x y v u _ I2 r1 r2 q2) fun d s3 ⟨z,H3,I3,r3,k,e,q3⟩=>?_)) hm
 subst e
 cases r3
 refine wpAny_truthy_bool ?_
 cases k with
 | false=>
   obtain⟨k',e',q'⟩:=q3
   cases e'
   exact ite_ff ⟨H3,I3,q'⟩
 | true=>
   refine ite_tt (test_last (thn (hc pins s3 σ H3 _ I3 q3) fun w' s4 ⟨z',H4,I4,r4,q4⟩=>thn (ho' pins s4 σ H4 y z' u w' _ I4 r2 r4 q4) fun d' s5 ⟨z2,H5,I5,r5,k2,e2,q5⟩=>?_))
   subst e2
   cases r5
   exact wpAny_truthy_bool ⟨H5,I5,q5⟩
theorem R5:(sizeLine:Nat) < 2 ^ 63:=by rw[sizeLine_eq];decide
theorem aN:OpR X (binaryOp .Add) (fun x y H Q=>∃i j,x = .str i/\y = .str j/\i.length+j.length<=sizeLine/\Q (.str (i++j)) H):=by
 intro pins s σ H x y v u Q I rx ry h
 obtain⟨i,j,rfl,rfl,hz,q⟩:=h
 obtain⟨t,rfl⟩:=rx
 obtain⟨t',rfl⟩:=ry
 exact add_str (fun t' tk=>⟨.str (i++j),H,I.tok _,⟨_,rfl⟩,q⟩) hz
theorem F6 {x:V}{us:List Value}(r:Vals [x] us):∃u,us=[u]/\RelV x u:=by
 cases r with
 | cons r1 r2=>cases r2;exact⟨_,rfl,r1⟩
theorem sX {x y:V}{us:List Value}(r:Vals [x,y] us):∃u w',us=[u,w']/\RelV x u/\RelV y w':=by
 cases r with
 | cons r1 r2=>
   cases r2 with
   | cons r3 r4=>cases r4;exact⟨_,_,rfl,r1,r3⟩
theorem fW:BO X (.type "int") (fun xs H Q=>(∃i,xs=[.int i]/\Q (.int i) H)∨∃k,xs=[.bl k]/\Q (.int (if k then 1 else 0)) H):=by
 intro pins s σ H xs us Q I r h
 rcases h with ⟨i,rfl,q⟩ | ⟨k,rfl,q⟩
 · obtain⟨u,rfl,t,rfl⟩:=F6 r
   exact call_int_int ⟨.int i,H,I,⟨_,rfl⟩,q⟩
 · obtain⟨u,rfl,r1⟩:=F6 r
   cases r1
   exact call_int_bool ⟨.int (if k then 1 else 0),H,I.tok _,⟨_,rfl⟩,q⟩
def jL (K:Frg) (x:V) (H:Hp) (n:Nat):Prop:=
 match x with
 | .str y=>y.length<=sizeLine/\n=y.length
 | .byt y=>y.size<=sizeLine/\n=y.size
 | .ref p=>(∃xs,SqL K H p xs/\n=xs.length)∨∃xs,SqT K H p xs/\n=xs.length
 | _=>False
theorem jM:BO X (.builtin "len") (fun xs H Q=>∃x n,xs=[x]/\jL X.K x H n/\Q (.int n) H):=by
 intro pins s σ H xs us Q I r h
 obtain⟨x,n,rfl,e,q⟩:=h
 obtain⟨u,rfl,rx⟩:=F6 r
 have hl:=R5
 have hs:sizeLine=16777216:=sizeLine_eq
 cases x with
 | str y=>
   obtain⟨t,rfl⟩:=rx
   obtain⟨hy,e'⟩:y.length<=sizeLine/\n=y.length:=e
   subst e'
   exact len_str (by omega) ⟨.int _,H,I.tok _,⟨_,rfl⟩,q⟩
 | byt y=>
   obtain⟨t,rfl⟩:=rx
   obtain⟨hy,e'⟩:y.size<=sizeLine/\n=y.size:=e
   subst e'
   exact PySem.W.len_bytes (by omega) ⟨.int _,H,I.tok _,⟨_,rfl⟩,q⟩
 | ref p=>
   cases rx
   have e':(∃xs,SqL X.K H p xs/\n=xs.length)∨∃xs,SqT X.K H p xs/\n=xs.length:=e
   rcases e' with ⟨xs,hx,e'⟩ | ⟨xs,hx,e'⟩
   · subst e'
     obtain⟨its,r',pl,hz⟩:=I.list hx
     have hlen:=r'.length
     exact Calls.call_len_list pl.isList (by simp only[zJ];omega) ⟨.int xs.length,H,I.tok _,⟨_,by simp only[zJ];rw[hlen]⟩,q⟩
   · subst e'
     obtain⟨its,r',pl,hz⟩:=I.tuple hx
     have hlen:=r'.length
     exact len_tuple pl (by simp only[zJ];omega) ⟨.int xs.length,H,I.tok _,⟨_,by simp only[zJ];rw[hlen]⟩,q⟩
 | _=>exact(show False from e).elim
theorem XM:BO X (.builtin "divmod") (fun xs H Q=>∃i j,xs=[.int i,.int j]/\z6 i j/\∀p,H p=none->Q (.ref p) (upd H p (.tup [.int (i/j),.int (i % j)]))):=by
 intro pins s σ H xs us Q I r h
 obtain⟨i,j,rfl,⟨h1,h2⟩,q⟩:=h
 obtain⟨u,w',rfl,⟨t,rfl⟩,⟨t',rfl⟩⟩:=sX r
 refine divmod_int (by omega) ?_ (.inl (PyProof.noPylong_small (by omega)))
 rw[Int.fdiv_eq_ediv_of_nonneg i (by omega),Int.fmod_eq_emod_of_nonneg i (by omega)]
 have hn:H s.heap.objs.size=none:=I.hok.fresh (zR _)
 refine⟨.ref s.heap.objs.size,_,?_,rfl,q _ hn⟩
 refine I.laid (fun b o e=>zW _ e) (zR _) ⟨by simp only[yR,b2W];rw[sizeLine_eq];decide,[.int (i/j) s.toks,.int (i % j) (s.toks+1)],.cons ⟨_,rfl⟩ (.cons ⟨_,rfl⟩ .nil),?_⟩
 exact⟨_,yZ s.heap rfl,rfl,0,rfl⟩
end
structure ObjM (h:Heap) (x dx C:Addr) (mA:Str->Option Value):Prop where
 obj:h.get? x=some (PySem.W.instObj C dx)
 ns:h.Ns1 dx mA
 ne:dx≠x
theorem fX {h:Heap}{dx:Addr}{mA:Str->Option Value}(n:h.Ns1 dx mA):∃od,h.get? dx=some od/\∀name,PySem.W.lookIn name od=some (mA name):=by
 obtain⟨o,es,ep,ho,hd,hk,_,hm⟩:=n
 refine⟨o,ho,fun name=>?_⟩
 have e:=hm name
 unfold nsFind findBy at e
 rw[← Array.find?_toList] at e
 unfold PySem.W.lookIn
 rw[hd]
 dsimp only
 split
 · rename_i y q
   rw[q] at e
   exact congrArg some e
 · rename_i q
   rw[q] at e
   have a:es.toList.any (·.refKey)=false:=by
     rw[c0X]
     intro y hy
     obtain⟨z,t,hkey⟩:=hk y (Array.mem_toList_iff.mp hy)
     simp[DictEntry.refKey,hkey]
   have a':¬es.toList.any (·.refKey)=true:=by rw[a];exact nft
   rw[if_neg a']
   exact congrArg some e
theorem ObjM.look {h:Heap}{x dx C:Addr}{mA:Str->Option Value}(I:ObjM h x dx C mA):∃od,PySem.W.InstAt h x (PySem.W.instObj C dx) C (some od)/\∀name,PySem.W.lookIn name od=some (mA name):=
 let ⟨od,ho,hl⟩:=fX I.ns
 ⟨od,⟨I.obj,rfl,rfl,ho⟩,hl⟩
theorem RelO.some_of {v:V}{o:Option Value}(r:RelO (some v) o):∃u,o=some u/\RelV v u:=by
 cases o with
 | none=>exact(show False from r).elim
 | some u=>exact⟨u,rfl,r⟩
section
variable {P:Program}{w:World}{H H':Hp}{h h':Heap}{a C dx:Addr}{fs fs':List (Str×V)}
theorem oO (hok:HOk P w H h) (e:H a=some (.ins C dx fs)):∃mA,ObjM h a dx C mA/\(∀f,RelO (fs.lookup f) (mA f))/\PySem.Within mA (fs.map (·.1))/\fs.length<=1000/\H dx=some (.own a):=by
 obtain⟨d,z,ne,ob,mA,n,r,q⟩:=(show ObjOk P w H h a (.ins C dx fs) from hok a _ e)
 exact⟨mA,⟨ob,n,ne⟩,r,q,z,d⟩
end
structure Cls (K:Frg) (C:Addr):Prop where
 pg:PySem.W.plainGet K C Str.empty=true
 hd:PySem.W.hasDictIn K C=true
 po:PySem.W.plainOver K C=true
 sa:PySem.W.findIn K (.ref C) "__setattr__"=some (some (.builtin "object.__setattr__"))
theorem Cls.get {K:Frg}{C:Addr}(c:Cls K C) (f:Str):PySem.W.plainGet K C f=true:=c.pg
section
variable {X:Cx}{pins:List (Addr×Obj)}{σ:St}{H:Hp}{s:Shared}{A:Around}{E:Value->Shared->Prop}{Q:Value->Shared->Prop}{c:Value}{b:Bool}
inductive TyOf (K:Frg) (H:Hp):V->Value->Prop where
 | non:TyOf K H .non (.type "NoneType")
 | bl (x:Bool):TyOf K H (.bl x) (.type "bool")
 | int (i:Int):TyOf K H (.int i) (.type "int")
 | str (x:Str):TyOf K H (.str x) (.type "str")
 | flt (x:UInt64):TyOf K H (.flt x) (.type "float")
 | lst {a:Addr}{xs:List V}(e:H a=some (.lst xs)):TyOf K H (.ref a) (.type "list")
 | frz {a:Addr}{o:Obj}{xs:List V}(e:H a=some (.frz o (.lst xs))):TyOf K H (.ref a) (.type "list")
 | tup {a:Addr}{xs:List V}(e:H a=some (.tup xs)):TyOf K H (.ref a) (.type "tuple")
 | dK {a:Addr}{kvs:List (Key×V)}(e:H a=some (.dK kvs)):TyOf K H (.ref a) (.type "dict")
 | dT {a:Addr}{kvs:List (List Key×V)}(e:H a=some (.dT kvs)):TyOf K H (.ref a) (.type "dict")
 | ins {a C dx:Addr}{fs:List (Str×V)}(e:H a=some (.ins C dx fs)) (cl:Cls K C) (ha:PySem.W.findIn K (.ref C) "__class__"=some (some (.builtin "object.__class__")))
     (hn:PySem.W.specialIn K (.builtin "object.__class__") "__get__"=some (some (.builtin "getset_descriptor.__get__"))) (htk:PySem.W.takesIn K (.builtin "object.__class__")=some true)
     (hm:PySem.W.mroIn K C (.type "object")=some true):TyOf K H (.ref a) (.ref C)
theorem HF {x:V}{u t:Value}(I:Inv X pins σ H s) (rx:RelV x u) (ty:TyOf X.K H x t) (e:PySem.W.kitOne X.K t c=some b) (h:∀tk,Q (.bool b) { s with toks:=tk }) :
   wpAny (model X.prog X.w) A (call (.builtin "isinstance") [u,c]) Q E s:=by
 cases ty with
 | non=>cases (show u=a2V from rx);exact a2Z PySem.W.kitx_none I.kIn a7Q e (fun z=>nomatch z) h
 | bl y=>cases (show u=Value.bool y from rx);exact a2Z PySem.W.kitx_bool I.kIn a7Q e (fun z=>nomatch z) h
 | int i=>obtain⟨t,q⟩:=(show ∃t,u=b5V i t from rx);cases q;exact a2Z PySem.W.kitx_int I.kIn a7Q e (fun z=>nomatch z) h
 | str y=>obtain⟨t,q⟩:=(show ∃t,u=c1Q y t from rx);cases q;exact a2Z PySem.W.kitx_str I.kIn a7Q e (fun z=>nomatch z) h
 | flt y=>obtain⟨t,q⟩:=(show ∃t,u=Value.float y t from rx);cases q;exact a2Z PySem.W.kitx_float I.kIn a7Q e (fun z=>nomatch z) h
 | @lst a xs ea=>
   cases (show u=a0Z a from rx)
   obtain⟨_,_,n,_,h1⟩:=(show ObjOk X.prog X.w H s.heap a (.lst xs) from I.hok a _ ea)
   exact a2Z PySem.W.kitx_list I.kIn ⟨_,h1,rfl⟩ e (fun z=>nomatch z) h
 | @frz a ob xs ea=>
   cases (show u=a0Z a from rx)
   obtain⟨_,_,_,n,_,h1⟩:=(show ObjOk X.prog X.w H s.heap a (.frz ob (.lst xs)) from I.hok a _ ea)
   exact a2Z PySem.W.kitx_list I.kIn ⟨_,h1,rfl⟩ e (fun z=>nomatch z) h
 | @tup a xs ea=>
   cases (show u=a0Z a from rx)
   obtain⟨_,_,_,p⟩:=(show ObjOk X.prog X.w H s.heap a (.tup xs) from I.hok a _ ea)
   obtain⟨o,h1,h2,_⟩:=p
   exact a2Z PySem.W.kitx_tuple I.kIn ⟨o,h1,h2⟩ e (fun z=>nomatch z) h
 | @dK a kvs ea=>
   cases (show u=a0Z a from rx)
   obtain⟨_,_,vs,_,p⟩:=(show ObjOk X.prog X.w H s.heap a (.dK kvs) from I.hok a _ ea)
   obtain⟨o,es,ep,h1,h2,_⟩:=p
   exact a2Z PySem.W.kitx_dict I.kIn ⟨o,h1,h2.1⟩ e (fun z=>nomatch z) h
 | @dT a kvs ea=>
   cases (show u=a0Z a from rx)
   obtain⟨_,_,xs,_,o,es,ep,h1,h2,_⟩:=(show ObjOk X.prog X.w H s.heap a (.dT kvs) from I.hok a _ ea)
   exact a2Z PySem.W.kitx_dict I.kIn ⟨o,h1,h2.1⟩ e (fun z=>nomatch z) h
 | @ins a C dx fs ea cl ha hn htk hm=>
   cases (show u=a0Z a from rx)
   obtain⟨mA,O,_⟩:=oO I.hok ea
   obtain⟨od,J,_⟩:=O.look
   exact a2Z (PySem.W.kitx_own (cl.get _) cl.hd ha hn htk hm) I.kIn J e (fun z=>nomatch z) h
end
structure Room (k:Nat) (A:Around):Prop where
 hd:A.handled=none
 dp:A.depth+3*k+5 < recursionLimit
 un:A.units+16*k+200 < cLine
theorem Room.mono {j k:Nat}{A:Around}(r:Room k A) (h:j<=k):Room j A:=⟨r.hd,by have:=r.dp;omega,by have:=r.un;omega⟩
theorem Room.deeper {k:Nat}{A:Around}(r:Room (k+1) A) (env:Env):Room k (A.deeper env):=
 ⟨r.hd,by have:=r.dp;show A.depth+1+3*k+5 < _;omega,by have:=r.un;show A.units+3+16*k+200 < _;omega⟩
theorem Room.depth {k:Nat}{A:Around}(r:Room k A):A.depth < recursionLimit:=by have:=r.dp;omega
theorem Room.units {k:Nat}{A:Around}(r:Room k A):A.units+64 < cLine:=by have:=r.un;omega
def z8:TA:=fun _ H Q=>Q [] H
def sY (ta:TE) (tr:TA):TA:=fun σ H Q=>ta σ H fun x H1=>tr σ H1 fun xs H2=>Q (x::xs) H2
section
variable {X:Cx}{e:Expr}{es:List Expr}{te:TE}{t:TA}{pos:Pos}
theorem uM:PA X [] z8:=fun _ _ _ _ H Q I h=>b9X ⟨[],H,I,.nil,h⟩
theorem oP (ha:PE X e te) (hr:PA X es t) (hs:starEach (e::es) X.env=(false,eval e X.env)::starEach es X.env:=by rfl):PA X (e::es) (sY te t):=by
 intro pos pins s σ H Q I h
 rw[hs]
 show wpAny _ _ (spliced ((false,eval e X.env)::backTo pos (starEach es X.env))) _ _ s
 refine xP (thn (ha pins s σ H _ I h) fun u s1 ⟨x,H1,I1,r1,q1⟩=>?_)
 exact thn (hr pos pins s1 σ H1 _ I1 q1) fun us s2 ⟨xs,H2,I2,r2,q2⟩=>⟨x::xs,H2,I2,.cons r1 r2,q2⟩
def uN (t:TA):TE:=fun σ H Q=>t σ H fun xs H1=>xs.length<=sizeLine/\∀p,H1 p=none->Q (.ref p) (upd H1 p (.tup xs))
def uO (t:TA):TE:=fun σ H Q=>t σ H fun xs H1=>xs.length<=sizeLine/\∀p,H1 p=none->Q (.ref p) (upd H1 p (.lst xs))
theorem uP {x1} (h:PA X es t):PE X (.Tuple es x1 pos) (uN t):=by
 intro pins s σ H Q I hq
 refine wpAny_Tuple_spliced (thn (h pos pins s σ H _ I hq) fun us s1 ⟨xs,H1,I1,r,z,q⟩=>⟨by rw[← r.length];exact z,?_⟩)
 have hf:H1 s1.heap.objs.size=none:=I1.hok.fresh (zR _)
 refine⟨.ref s1.heap.objs.size,upd H1 s1.heap.objs.size (.tup xs),I1.laid (t':=s1.toks) (fun b u e=>zW _ e) (zR _) ?_,rfl,q _ hf⟩
 exact⟨z,us,r,⟨_,yZ _ rfl,rfl,_,rfl⟩⟩
theorem uQ (h:PA X es t):PE X (.List es pos) (uO t):=by
 intro pins s σ H Q I hq
 refine wpAny_List_spliced (thn (h pos pins s σ H _ I hq) fun us s1 ⟨xs,H1,I1,r,z,q⟩=>⟨by rw[← r.length];exact z,?_⟩)
 have hf:H1 s1.heap.objs.size=none:=I1.hok.fresh (zR _)
 refine⟨.ref s1.heap.objs.size,upd H1 s1.heap.objs.size (.lst xs),I1.laid (t':=s1.toks) (fun b u e=>zW _ e) (zR _) ?_,rfl,q _ hf⟩
 exact⟨z,us,0,r,yZ _ rfl⟩
end
abbrev Sp:=List V->Hp->VK->XK->Prop
abbrev CXT:=List Env->Hp->Shared->XK->Value->Shared->Prop
structure Env0 (P:Program) (w:World) (K:Frg) (mg:Str->Option Value) (base:Heap) (A:Around) (outer:List Env) (s:Shared) (H:Hp):Prop where
 frames:A.frames=some outer
 mod:Mod K mg base
 bs:∀b o,base.get? b=some o->s.heap.get? b=some o/\H b=none
 bsz:base.objs.size<=s.heap.objs.size
 funs:s.heap.FunFrames base outer
 frf:∀b∈frs outer,H b=none
 hok:HOk P w H s.heap
 bare:AllBare s.gens
def CE (outer:List Env) (P:Program) (w:World) (H:Hp) (s:Shared) (Q:VK) (u:Value) (s':Shared):Prop:=
 ∃v H',s'.os=s.os/\AllBare s'.gens/\Un (frs outer) [] H H' s.heap s'.heap/\HOk P w H' s'.heap/\RelV v u/\Q v H'
def CR (CX:CXT) (outer:List Env) (P:Program) (w:World) (H:Hp) (s:Shared) (Q:VK) (E:XK) (r:Result) (s':Shared):Prop:=
 match r with
 | .ok (.ret u)=>CE outer P w H s Q u s'
 | .ok _=>False
 | .error e=>CX outer H s E e s'
structure FnOk (P:Program) (w:World) (K:Frg) (mg:Str->Option Value) (base:Heap) (CX:CXT) (k:Nat) (f:Addr) (fd:FuncData) (ps:List Str) (sp:Sp):Prop where
 len:∀vs H Q E,sp vs H Q E->vs.length=ps.length
 run:∀(A:Around) (outer:List Env) (s:Shared) (H:Hp) (args:Args) (us:List Value) (vs:List V) (Q:VK) (E:XK),Room k A->Env0 P w K mg base A outer s H->BindsTo s fd args (ps.zip us)->Vals vs us->sp vs H Q E ->
   codeAny (model P w) A (.call (.ref f) args) (CR CX outer P w H s Q E) s
section
variable {X:Cx}{pins:List (Addr×Obj)}{σ:St}{H:Hp}{s s':Shared}
theorem Inv.env0 (I:Inv X pins σ H s):Env0 X.prog X.w X.K X.mg X.base X.A X.stack s H:=
 ⟨I.ok.frames,I.ok.mod,I.bs,zN I.ok.bsz I.sz,I.stack,I.stkFree,I.hok,I.bare⟩
theorem Inv.after {Q:VK}{u:Value}(I:Inv X pins σ H s) (h:CE X.stack X.prog X.w H s Q u s'):EP X pins σ Q u s':=by
 obtain⟨v,H',os,bare,un,hok,r,q⟩:=h
 obtain⟨hh,g,d,t,os'⟩:=s'
 obtain rfl:os'=s.os:=os
 exact⟨v,H',I.call (h':=hh) (g':=g) (d':=d) (t':=t) (ch:=[]) un hok bare (fun b z=>absurd z (by simp)),r,q⟩
end
def cX (sp:Sp) (dvs:List V) (E:XK) (t:TA):TE:=fun σ H Q=>t σ H fun vs H1=>sp (vs++dvs) H1 Q E
def Binds (K:Frg) (fd:FuncData) (ps:List Str) (ds:List Value):Prop:=
 ∀(s:Shared) (us:List Value),K.In s.heap->(us++ds).length=ps.length->BindsTo s fd ⟨us,[]⟩ (ps.zip (us++ds))
theorem Binds.all {K:Frg}{fd:FuncData}{ps:List Str}(h:∀us:List Value,us.length=ps.length->bindArgs fd ⟨us,[]⟩=pure (ps.zip us)):Binds K fd ps []:=fun s us _ hl=>by
 rw[a2W] at hl ⊢
 exact .of_eq (h us hl)
def aO (CX:CXT) (X:Cx) (E:XK):Prop:=∀(pins:List (Addr×Obj)) (σ:St) (H:Hp) (s:Shared) (e:Value) (s':Shared),Inv X pins σ H s->CX X.stack H s E e s'->X.xe e s'
section
variable {X:Cx}{CX:CXT}{k:Nat}{f C:Addr}{fd:FuncData}{ps:List Str}{sp:Sp}{dvs:List V}{ds:List Value}{E:XK}{x m:Str}{p pos apos:Pos}{e o:Expr}{es:List Expr}{ta:TE}{t:TA}
theorem uR {pins:List (Addr×Obj)}{σ:St}{H:Hp}{s:Shared}{Q:VK}{us:List Value}{vs:List V}(F:FnOk X.prog X.w X.K X.mg X.base CX k f fd ps sp) (hr:Room k X.A) (hb:Binds X.K fd ps ds) (hd:Vals dvs ds) (hx:aO CX X E)
   (I:Inv X pins σ H s) (r:Vals vs us) (h:sp (vs++dvs) H Q E):wpAny (model X.prog X.w) X.A (call (.ref f) us) (EP X pins σ Q) X.xe s:=by
 have r2:Vals (vs++dvs) (us++ds):=r.append hd
 have hl:(us++ds).length=ps.length:=by rw[← r2.length];exact F.len _ _ _ _ h
 refine wpAny_call (codeAny_mono (F.run X.A X.stack s H ⟨us,[]⟩ (us++ds) (vs++dvs) Q E hr I.env0 (hb s us I.kIn hl) r2 h) fun r s' hq=>?_)
 cases r with
 | error e=>exact hx pins σ H s e s' I hq
 | ok fl=>
   cases fl with
   | ret u=>exact I.after hq
   | next=>exact b2Z hq
   | brk=>exact b2Z hq
   | cont=>exact b2Z hq
theorem oQ (F:FnOk X.prog X.w X.K X.mg X.base CX k f fd ps sp) (hr:Room k X.A) (hg:Gl X x) (hm:X.mg x=some (.ref f)) (hk:b0W X.K (.ref f)=true) (hb:Binds X.K fd ps ds) (hd:Vals dvs ds) (hx:aO CX X E)
   (ha:PA X (e::es) t) (hdb:(x==("__debug__":Str))=false:=by decide) (he:starEach (e::es) X.env=(false,eval e X.env)::starEach es X.env:=by rfl) (hpl:(backTo pos (starEach es X.env)).any (·.1)=false:=by rfl) :
   PE X (.Call (.Name x p) (e::es) [] pos) (cX sp dvs E t):=by
 intro pins s σ H Q I h
 refine wpAny_Call_Name_kw (VG I hg hm ?_ hdb)
 refine PySem.W.callWith_K (h₀:=X.base) I.ok.mod.kin hk (thn (ha pos pins s σ H _ I h) fun us s1 ⟨vs,H1,I1,r,q⟩=>⟨I1.kIn,?_⟩) he hpl
 exact uR F hr hb hd hx I1 r q
end
structure FnScope (N P:List Str) (sc:Scope):Prop where
 kind:sc.kind = .function
 co:sc.isCoroutine=false
 gen:sc.isGenerator=false
 nd:N.Nodup
 pre:N.take P.length=P
 par:∀x∈P,sc.names.lookup x=some .local∨sc.names.lookup x=some .cell
 nofree:∀y∈sc.names,y.2≠.free
theorem UB {kindOf:Str->Option NameKind}{x:Str}:∀{binds:List (Str×Value)}{m:Str->Option Value},(∀v,(x,v)∉binds)->bindL kindOf binds m x=m x
 | [],_,_=>rfl
 | (n,v)::r,m,h=>by
   unfold bindL
   rw[UB fun w hw=>h w (yV _ hw)]
   split
   · have:x≠n:=by rintro rfl;exact h v a1W
     simp[this]
   · rfl
theorem UC {kindOf:Str->Option NameKind}{x:Str}:∀{binds:List (Str×Value)}{m:Str->Option Value},(∀v,(x,v)∉binds)->bindC kindOf binds m x=m x
 | [],_,_=>rfl
 | (n,v)::r,m,h=>by
   unfold bindC
   rw[UC fun w hw=>h w (yV _ hw)]
   split
   · rfl
   · have:x≠n:=by rintro rfl;exact h v a1W
     simp[this]
theorem UD {kindOf:Str->Option NameKind}{x:Str}{v:Value}:∀{P:List Str}{vs:List Value}{i:Nat}{m:Str->Option Value},P.Nodup->P[i]?=some x->vs[i]?=some v->kindOf x=some .local ->
   bindL kindOf (P.zip vs) m x=some v
 | [],_,_,_,_,h,_,_=>by simp at h
 | _::_,[],_,_,_,_,h,_=>by simp at h
 | p::P,w::vs,0,m,nd,h1,h2,hk=>by
   simp at h1 h2;subst h1;subst h2
   show bindL kindOf ((p,w)::P.zip vs) m p=_
   unfold bindL
   rw[UB fun v hv=>(xV.mp nd).1 (b6Z hv).1,if_pos hk]
   simp
 | p::P,w::vs,i+1,m,nd,h1,h2,hk=>by
   show bindL kindOf ((p,w)::P.zip vs) m x=_
   unfold bindL
   exact UD (i:=i) (xV.mp nd).2 (by simpa using h1) (by simpa using h2) hk
theorem UE {kindOf:Str->Option NameKind}{x:Str}{v:Value}:∀{P:List Str}{vs:List Value}{i:Nat}{m:Str->Option Value},P.Nodup->P[i]?=some x->vs[i]?=some v->kindOf x≠some .local ->
   bindC kindOf (P.zip vs) m x=some v
 | [],_,_,_,_,h,_,_=>by simp at h
 | _::_,[],_,_,_,_,h,_=>by simp at h
 | p::P,w::vs,0,m,nd,h1,h2,hk=>by
   simp at h1 h2;subst h1;subst h2
   show bindC kindOf ((p,w)::P.zip vs) m p=_
   unfold bindC
   rw[UC fun v hv=>(xV.mp nd).1 (b6Z hv).1,if_neg hk]
   simp
 | p::P,w::vs,i+1,m,nd,h1,h2,hk=>by
   show bindC kindOf ((p,w)::P.zip vs) m x=_
   unfold bindC
   exact UE (i:=i) (xV.mp nd).2 (by simpa using h1) (by simpa using h2) hk
def IY (N:List Str) (vs:List V):St:=vs.map some++a5Z (N.length - vs.length) none
def aP (CX:CXT) (P:Program) (w:World) (K:Frg) (mg:Str->Option Value) (base:Heap) (N:List Str) (qual:Str) (scope:Scope) (f:Addr) (cd:Value) (A:Around) (outer:List Env) (s:Shared) (H:Hp) (E:XK):Cx where
 prog:=P
 w:=w
 K:=K
 mg:=mg
 base:=base
 A:=A.deeper (envOfC qual scope s.heap.objs.size f cd)
 N:=N
 s₀:=s
 H₀:=H
 env:=envOfC qual scope s.heap.objs.size f cd
 outer:=outer
 stack:=envOfC qual scope s.heap.objs.size f cd::outer
 ex:=[]
 calm:=true
 fn:=fun _=>true
 pn:=[]
 xe:=fun e s'=>wpAny (model P w) (A.deeper (envOfC qual scope s.heap.objs.size f cd)) (leaving (envOfC qual scope s.heap.objs.size f cd) e) (fun _ s''=>CX outer H s E e s'') (fun e' s''=>CX outer H s E e' s'') s'
theorem XN {sc:Scope}{n:Nat}{x:Str}(h:sc.names.lookup x=some .cell):∃c,(cellsFrom n sc.names []).lookup x=some c:=by
 have q:=PySem.W.cellsFrom_some sc.names n [] (.inl h)
 exact xY.mp q
theorem fY {CX:CXT}{P:Program}{w:World}{K:Frg}{mg:Str->Option Value}{base:Heap}{N ps:List Str}{qual:Str}{scope:Scope}{f:Addr}{cd:Value}{A:Around}{outer:List Env}{s s1:Shared}{H:Hp}{E:XK}{us:List Value}{vs:List V}
   (S:FnScope N ps scope) (hd:A.handled=none) (e0:Env0 P w K mg base A outer s H) (hl:vs.length=ps.length) (r:Vals vs us)
   (x:InCallC s s.heap.objs.size (bindL (envOfC qual scope s.heap.objs.size f cd).kindOf (ps.zip us) fun _=>none) (cellsFrom (s.heap.objs.size+1) scope.names []) (bindC (envOfC qual scope s.heap.objs.size f cd).kindOf (ps.zip us) fun _=>none) s1) :
   Inv (aP CX P w K mg base N qual scope f cd A outer s H E) [] (IY N vs) H s1:=by
 have hpl:ps.length<=N.length:=by have:=congrArg b2X S.pre;rw[a0J] at this;omega
 obtain⟨h1,tk,rfl,hk⟩:=x.done
 have noA:∀b:Addr,b∉(aP CX P w K mg base N qual scope f cd A outer s H E).ex:=fun b z=>absurd (show b∈([]:List Addr) from z) (by simp)
 refine⟨⟨e0.mod,S.kind,rfl,rfl,zR _,fun y z c h1 h2=>?_,fun y hy=>?_,fun y c _ h=>?_,fun _=>hd,Around.frames_deeper e0.frames,.inr ⟨rfl,rfl⟩,fun b z=>absurd z (noA b),e0.bs,e0.bsz,fun b _ _=>noA b,fun b z=>absurd z (noA b),e0.funs,e0.frf⟩,
   rfl,e0.bare,Un.kept hk,⟨_,x.toInCall.ns,fun i y v h1 h2 h3=>?_⟩,fun y c h=>⟨_,x.cell y c h⟩,e0.hok.fresh (zR _),fun y c h=>?_,fun p hp=>absurd (show p∈([]:List (Addr×Obj)) from hp) (by simp),e0.hok.kept hk,?_⟩
 · exact name_of_addr x.apart (a4V h1) (a4V h2)
 · have hy:scope.names.lookup y=some .cell∨scope.names.lookup y=some .free:=hy
   rcases hy with hy | hy
   · exact XN hy
   · exact absurd rfl (S.nofree _ (a4V hy))
 · exact xR (x.above y c (a4V h))
 · have hi:i < vs.length:=by
     unfold IY at h2
     by_cases hi:i < vs.length
     · exact hi
     · rw[yP (by simpa using hi)] at h2
       rw[List.getElem?_replicate] at h2
       split at h2 <;> cases h2
   have ha:vs[i]?=some v:=by
     unfold IY at h2
     rw[yQ (by simpa using hi),zF] at h2
     cases e:vs[i]? with
     | none=>rw[e] at h2;cases h2
     | some a=>rw[e] at h2;cases h2;rfl
   obtain⟨u,hu,rv⟩:=r.get ha
   have hp:ps[i]?=some y:=by
     rw[← S.pre,b2K (by omega)];exact h1
   have ndP:ps.Nodup:=by rw[← S.pre];exact S.nd.sublist (List.take_sublist _ _)
   refine⟨u,rv,?_⟩
   rcases S.par y (yN hp) with k | k
   · exact .inl ⟨k,UD ndP hp hu k⟩
   · obtain⟨c,e⟩:=XN (n:=s.heap.objs.size+1) k
     refine .inr ⟨.inl k,c,e,?_⟩
     have q:=x.cell y c e
     rw[UE ndP hp hu (by show scope.names.lookup y≠_;rw[k];decide)] at q
     exact q
 · exact e0.hok.fresh (xR (x.above y c (a4V h)))
 · unfold IY
   show _=N.length
   rw[yY,zX,b0J]
   omega
theorem z9 {CX:CXT}{P:Program}{w:World}{K:Frg}{mg:Str->Option Value}{base:Heap}{k:Nat}{f:Addr}{name qual:Str}{params:Arguments}{body:List Stmt}{scope:Scope}{dV kV doc pm cdv ct oc:Value}{an od:Option Addr}
   {osl:Array (Option Value)}{N ps:List Str}{sp:Sp}(lk:K.lookup f=some ⟨oc,od,.func (a8W name qual params body scope dV kV doc pm an cdv ct),osl⟩) (hcd:b6W K cdv qual=true) (S:FnScope N ps scope)
   (len:∀vs H Q E,sp vs H Q E->vs.length=ps.length)
   (hbody:∀(A:Around) (outer:List Env) (s:Shared) (H:Hp) (vs:List V) (Q:VK) (E:XK),Room k (A.deeper (envOfC qual scope s.heap.objs.size f cdv))->sp vs H Q E ->
     ∃t,PSs (aP CX P w K mg base N qual scope f cdv A outer s H E) body t/\t { nx:=fun _ H'=>Q .non H',rt:=Q } (IY N vs) H) :
   FnOk P w K mg base CX (k+1) f (a8W name qual params body scope dV kV doc pm an cdv ct) ps sp:=by
 refine⟨len,fun A outer s H args us vs Q E hr e0 hb r hsp=>?_⟩
 have hl:=len _ _ _ _ hsp
 have KX:K.In s.heap:=e0.mod.kin.keeps fun b o e=>(e0.bs b o e).1
 have lim:s.heap.NoLimit:=e0.mod.nolimit.keeps fun b o e=>(e0.bs b o e).1
 have hkind:∀y∈ps.zip us,scope.names.lookup y.1=some .local∨(scope.names.lookup y.1=some .cell/\((cellsFrom (s.heap.objs.size+1) scope.names []).lookup y.1).isSome=true):=fun⟨n,v⟩ hy=>by
   rcases S.par n (b6Z hy).1 with q | q
   · exact .inl q
   · exact .inr ⟨q,PySem.W.cellsFrom_some _ _ _ (.inl q)⟩
 refine codeAny_call_function hr.depth (KX _ _ lk) rfl S.co S.gen rfl (PySem.W.codeRec_of KX hcd) (hb _ _ _ _ ?_)
 refine wpAny_newFunctionEnv_cells S.kind hkind fun env he s1 x=>?_
 subst he
 refine⟨lim.keeps x.toInCall.keep,codeAny_func ?_⟩
 obtain⟨t,ht,hq⟩:=hbody A outer s H vs Q E (hr.deeper _) hsp
 have I:Inv (aP CX P w K mg base N qual scope f cdv A outer s H E) [] (IY N vs) H s1:=fY S hr.hd e0 hl r x
 refine wpAny_mono (ht [] s1 (IY N vs) H _ I hq) (fun fl s' hs=>?_) fun e s' hs=>hs
 have fin:∀{σ':St}{H':Hp}{v:V}{u:Value},Inv (aP CX P w K mg base N qual scope f cdv A outer s H E) [] σ' H' s'->RelV v u->Q v H'->CE outer P w H s Q u s':=
   fun {σ' H' v u} J rv q=>⟨v,H',J.os,J.bare,J.base,J.hok,rv,q⟩
 cases fl with
 | ret u=>
   obtain⟨v,σ',H',J,rv,q⟩:=hs
   exact fin J rv q
 | next=>
   obtain⟨σ',H',J,q⟩:=hs
   exact fin (v:=V.non) (u:=a2V) J rfl q
 | brk=>
   obtain⟨_,_,_,q⟩:=hs
   exact b2Z q
 | cont=>
   obtain⟨_,_,_,q⟩:=hs
   exact b2Z q
section
variable {X:Cx}{x:Str}{p pos:Pos}{e:Expr}{es:List Expr}{t:TA}{id T:String}{r:List V->Hp->VK->Prop}
def tCB (r:List V->Hp->VK->Prop) (t:TA):TE:=fun σ H Q=>t σ H fun vs H1=>r vs H1 Q
theorem DF (hc:BO X (.builtin id) r) (hg:Gl X x) (hm:X.mg x=none) (hv:bootBuiltins x=some (.builtin id)) (ha:PA X (e::es) t) (hn:x ≠ "__name__" := by decide) (hdb:(x==("__debug__":Str))=false:=by decide)
   (he:starEach (e::es) X.env=(false,eval e X.env)::starEach es X.env:=by rfl) (hpl:(backTo pos (starEach es X.env)).any (·.1)=false:=by rfl):PE X (.Call (.Name x p) (e::es) [] pos) (tCB r t):=by
 intro pins s σ H Q I h
 refine wpAny_Call_Name_kw (GZ I hg hm hv ?_ hn hdb)
 exact PyProof.Rows.callWith_builtin1 (thn (ha pos pins s σ H _ I h) fun us s1 ⟨vs,H1,I1,r1,q1⟩=>hc pins s1 σ H1 vs us Q I1 r1 q1) he hpl
theorem HG (hc:BO X (.type T) r) (hg:Gl X x) (hm:X.mg x=none) (hv:bootBuiltins x=some (.type T)) (ha:PA X (e::es) t) (hn:x ≠ "__name__" := by decide) (hdb:(x==("__debug__":Str))=false:=by decide)
   (he:starEach (e::es) X.env=(false,eval e X.env)::starEach es X.env:=by rfl) (hpl:(backTo pos (starEach es X.env)).any (·.1)=false:=by rfl):PE X (.Call (.Name x p) (e::es) [] pos) (tCB r t):=by
 intro pins s σ H Q I h
 refine wpAny_Call_Name_kw (GZ I hg hm hv ?_ hn hdb)
 exact xH (thn (ha pos pins s σ H _ I h) fun us s1 ⟨vs,H1,I1,r1,q1⟩=>hc pins s1 σ H1 vs us Q I1 r1 q1) he hpl
end
end L2
namespace HT
open PySem PyProof.Rows
section
variable {prog:Program}{w:World}{A:Around}{E:Value->Shared->Prop}{s:Shared}
def sIx (n d:Nat):Option Int->Nat
 | none=>d
 | some v=>if v < 0 then (v+(n:Int)).toNat else min v.toNat n
theorem sIx_nat (n d k:Nat):sIx n d (some (k:Int))=min k n:=by
 show(if (k:Int) < 0 then ((k:Int)+(n:Int)).toNat else min (k:Int).toNat n)=min k n
 rw[if_neg (by omega),a4Q]
theorem uS (n d:Nat) (hd:d<=n) (o:Option Int):sIx n d o<=n:=by
 cases o with
 | none=>exact hd
 | some v=>
   show(if v < 0 then (v+(n:Int)).toNat else min v.toNat n)<=n
   by_cases hv:v < 0
   · rw[if_pos hv];omega
   · rw[if_neg hv];exact Nat.min_le_right _ _
theorem cY (v:Int) (n d:Nat):(if v < 0 then max (v+(n:Int)) 0 else min v (n:Int))=((sIx n d (some v):Nat):Int):=by
 show(if v < 0 then max (v+(n:Int)) 0 else min v (n:Int))=(((if v < 0 then (v+(n:Int)).toNat else min v.toNat n):Nat):Int)
 by_cases hv:v < 0
 · simp only[if_pos hv];omega
 · simp only[if_neg hv];omega
theorem aQ (lo hi:Option Int) (n:Nat):b4K lo hi 1 (n:Int)=(((sIx n 0 lo:Nat):Int),((sIx n n hi:Nat):Int)):=by
 have h1:¬((1:Int) < 0):=by omega
 unfold b4K
 simp only[h1,if_false]
 refine Prod.ext ?_ ?_
 · cases lo with
   | none=>rfl
   | some v=>exact cY v n 0
 · cases hi with
   | none=>rfl
   | some v=>exact cY v n n
theorem aR (i j:Nat):b0Q (i:Int) (j:Int) 1=j - i:=by
 unfold b0Q
 have h1:(1:Int) > 0:=by omega
 simp only[h1,if_true,Int.ediv_one]
 split <;> omega
theorem R6 {v:Value}{o:Option Int}{Q:Option Int->Shared->Prop}(p:IsPart v o) (h:Q o s):wpAny (model prog w) A (Builtin.Slice.slicePartIndex v) Q E s:=by
 cases p with
 | none=>exact slicePart_none h
 | int i t=>exact slicePart_int h
theorem HH {sl:Addr}{vl vu:Value}{lo hi:Option Int}{n:Nat}{Q:Int×Int×Nat->Shared->Prop}(hs:s.heap.IsSliceOf sl vl vu .none) (pl:IsPart vl lo) (pu:IsPart vu hi)
   (h:Q (((sIx n 0 lo:Nat):Int),1,sIx n n hi - sIx n 0 lo) s):wpAny (model prog w) A (Builtin.Slice.sliceApplied (.ref sl) (pure (n:Int))) Q E s:=by
 obtain⟨os,hos,hcs,hds⟩:=id hs
 unfold Builtin.Slice.sliceApplied Builtin.Slice.sliceFields
 refine zZ (zZ (wpAny_field hos hds (x:=vl) rfl (zZ (wpAny_field hos hds (x:=vu) rfl (zZ (wpAny_field hos hds (x:=.none) rfl (zY ?_)))))))
 refine zZ (slicePart_none ?_)
 show wpAny _ _ (if ((1:Int)==0)=true then _ else _) _ _ s
 rw[if_neg (by decide)]
 refine zZ (R6 pl (zZ (R6 pu (zZ (zY ?_)))))
 show wpAny _ _ (match b4K lo hi 1 (n:Int) with | (lo,hi)=>pure (lo,(1:Int),b0Q lo hi 1)) _ _ s
 rw[aQ lo hi n]
 show wpAny _ _ (pure (((sIx n 0 lo:Nat):Int),(1:Int),b0Q ((sIx n 0 lo:Nat):Int) ((sIx n n hi:Nat):Int) 1)) _ _ s
 rw[aR]
 exact zY h
theorem jN (xs:Array Value) (i k:Nat):((a1Q k).filterMap fun(m:Nat)=>xs[((i:Int)+(m:Int)*1).toNat]?).toArray=((xs.toList.drop i).take k).toArray:=by
 have e:(fun(m:Nat)=>xs[((i:Int)+(m:Int)*1).toNat]?)=fun m=>xs[i+m]?:=by
   funext m
   have:((i:Int)+(m:Int)*1).toNat=i+m:=by omega
   rw[this]
 rw[e]
 have:=pick_run xs i k
 rw[List.filterMap_map] at this
 have e2:((fun x=>xs[x]?)∘fun x=>i+x)=fun m=>xs[i+m]?:=rfl
 rw[e2] at this
 rw[this]
theorem getItem_tuple_cut {t sl:Addr}{items:Array Value}{vl vu:Value}{lo hi:Option Int}{Q:Value->Shared->Prop}(ht:IsTup s.heap t items) (hs:s.heap.IsSliceOf sl vl vu .none) (pl:IsPart vl lo) (pu:IsPart vu hi)
   (hw:¬(sIx items.size 0 lo=0/\sIx items.size items.size hi=items.size))
   (h:Q (.ref s.heap.objs.size) { s with heap:=s.heap.push { cls:=.type "tuple", data:=.seq ((items.toList.drop (sIx items.size 0 lo)).take (sIx items.size items.size hi - sIx items.size 0 lo)).toArray } })
   (hsz:items.size<=sizeLine):wpAny (model prog w) A (getItem (.ref t) (.ref sl)) Q E s:=by
 have htake:sizeOk (.seq ((items.toList.drop (sIx items.size 0 lo)).take (sIx items.size items.size hi - sIx items.size 0 lo)).toArray):=by
   show((items.toList.drop (sIx items.size 0 lo)).take (sIx items.size items.size hi - sIx items.size 0 lo)).toArray.size<=sizeLine
   rw[zJ,a0J,a5W,a3J]
   omega
 have hj:sIx items.size items.size hi<=items.size:=uS _ _ (zR _) hi
 obtain⟨os,hos,hcs,hds⟩:=id hs
 have hTs:s.TypeIs (.ref sl) "slice" := ⟨os,hos,hcs⟩
 unfold getItem
 try with_reducible refine wpAny_holding ?_
 first | refine zZ (zY ?_) | skip
 refine zZ (wpAny_sequenceKey ht.typeIs (by decide) ?_)
 refine zZ (wpAny_callSpecial?_slot (name:=a0Q "__getitem__") ht.typeIs a6V
   (wpAny_call_entry a6V ht.typeIs entry_tuple_getitem ?_ (args_tuple_getitem _ _)))
 show wpAny _ _ (Builtin.Tuple.tupleItemsOf (.ref t) >>= _) _ _ s
 refine zZ (tupleItemsOf_ ht ?_)
 refine zZ (wpAny_typeOf hTs ?_)
 rw[if_pos (by decide)]
 refine zZ (HH hs pl pu ?_)
 have hno:¬((((sIx items.size 0 lo:Nat):Int)==0&&(1:Int)==1&&(sIx items.size items.size hi - sIx items.size 0 lo)==items.size)=true):=by
   intro q
   rw[a0W,a0W] at q
   have q1:((sIx items.size 0 lo:Nat):Int)=0:=eq_of_beq q.1.1
   have q2:sIx items.size items.size hi - sIx items.size 0 lo=items.size:=eq_of_beq q.2
   exact hw ⟨by omega,by omega⟩
 show wpAny _ _ (if (((sIx items.size 0 lo:Nat):Int)==0&&(1:Int)==1&&(sIx items.size items.size hi - sIx items.size 0 lo)==items.size)=true then _ else _) _ _ s
 rw[if_neg hno,jN]
 first
   | exact zZ (m:=b0Z _) (xM (zY ⟨_,rfl,zY h⟩) htake)
   | exact zZ (m:=b0Z _) (xM (zZ (zY (zY ⟨_,rfl,zY h⟩))) htake)
   | exact zZ (zZ (m:=b0Z _) (xM (zY (zY ⟨_,rfl,zY h⟩)) htake))
   | exact zZ (zZ (m:=b0Z _) (xM (zY ⟨_,rfl,zY h⟩) htake))
end
end HT
namespace L2
open PySem PySem.Spec PyProof.Rows
abbrev TO:=St->Hp->(Option Int->Hp->Prop)->Prop
def PO (X:Cx) (e:Option Expr) (t:TO):Prop:=
 ∀(pins:List (Addr×Obj)) (s:Shared) (σ:St) (H:Hp) (Q:Option Int->Hp->Prop),Inv X pins σ H s->t σ H Q ->
   wpAny (model X.prog X.w) X.A (evalPart e X.env) (fun u s'=>∃o H',Inv X pins σ H' s'/\IsPart u o/\Q o H') X.xe s
def cZ:TO:=fun _ H Q=>Q none H
def sZ (t:TE):TO:=fun σ H Q=>t σ H fun x H1=>∃i,x = .int i/\Q (some i) H1
section
variable {X:Cx}{e:Expr}{te:TE}{lo hi:Option Expr}{tl th:TO}{pos p2:Pos}
theorem oR:PO X none cZ:=by
 intro pins s σ H Q I h
 rw[evalPart_none]
 exact zY ⟨none,H,I,.none,h⟩
theorem oS (h:PE X e te):PO X (some e) (sZ te):=by
 intro pins s σ H Q I hw
 rw[evalPart_some]
 refine thn (h pins s σ H _ I hw) fun u s1 ⟨x,H1,I1,r1,q1⟩=>?_
 obtain⟨i,rfl,q⟩:=q1
 obtain⟨t,rfl⟩:=r1
 exact⟨some i,H1,I1,.int i t,q⟩
def SlR (X:Cx) (r:V->Option Int->Option Int->Hp->VK->Prop):Prop:=
 ∀(pins:List (Addr×Obj)) (s:Shared) (σ:St) (H:Hp) (x:V) (v vl vu:Value) (lo hi:Option Int) (sl:Addr) (Q:VK),Inv X pins σ H s->RelV x v->s.heap.IsSliceOf sl vl vu .none->IsPart vl lo->IsPart vu hi->r x lo hi H Q ->
   ∃T id,typeLookup (.type T) "__getitem__"=pure (some (.builtin id))/\s.TypeIs v T/\wpAny (model X.prog X.w) X.A (getItem v (.ref sl)) (EP X pins σ Q) X.xe s
theorem SlR.or {r r':V->Option Int->Option Int->Hp->VK->Prop}(h:SlR X r) (h':SlR X r'):SlR X (fun x lo hi H Q=>r x lo hi H Q∨r' x lo hi H Q):=by
 intro pins s σ H x v vl vu lo hi sl Q I rx hs pl pu q
 rcases q with q | q
 · exact h pins s σ H x v vl vu lo hi sl Q I rx hs pl pu q
 · exact h' pins s σ H x v vl vu lo hi sl Q I rx hs pl pu q
def tSl (r:V->Option Int->Option Int->Hp->VK->Prop) (te:TE) (tl th:TO):TE:=fun σ H Q=>te σ H fun x H1=>tl σ H1 fun l H2=>th σ H2 fun u H3=>r x l u H3 Q
theorem jO {r:V->Option Int->Option Int->Hp->VK->Prop}(hr:SlR X r) (he:PE X e te) (hl:PO X lo tl) (hu:PO X hi th):PE X (.Subscript e (.Slice lo hi none p2) pos) (tSl r te tl th):=by
 intro pins s σ H Q I h
 refine Subscript_ (thn (he pins s σ H _ I h) fun v s1 ⟨x,H1,I1,r1,q1⟩=>?_)
 refine wpAny_Slice (thn (hl pins s1 σ H1 _ I1 q1) fun vl s2 ⟨l,H2,I2,pl,q2⟩=>thn (hu pins s2 σ H2 _ I2 q2) fun vu s3 ⟨u,H3,I3,pu,q3⟩=>?_)
 rw[evalPart_none]
 refine zY ?_
 have I4:Inv X pins σ H3 { s3 with heap:=s3.heap.push { cls:=.type "slice", data:=.fields #[vl,vu,.none] } }:=I3.kept (t':=s3.toks) fun b ob q=>zW _ q
 obtain⟨T,id,hT,ht,hg⟩:=hr pins { s3 with heap:=s3.heap.push { cls:=.type "slice", data:=.fields #[vl,vu,.none] } } σ H3 x v vl vu l u s3.heap.objs.size Q I4 r1 (Heap.IsSliceOf.new ..) pl pu q3
 show wpAny (model X.prog X.w) X.A (subscriptTail e (.Slice lo hi none p2) v (.ref s3.heap.objs.size)) (EP X pins σ Q) X.xe { s3 with heap:=s3.heap.push { cls:=.type "slice", data:=.fields #[vl,vu,.none] } }
 exact tail_any (ops:=[.ref s3.heap.objs.size,v]) ht hT hg (by with_unfolding_all rfl)
def LU (xs:List V) (lo hi:Option Int):List V:=(xs.drop (HT.sIx xs.length 0 lo)).take (HT.sIx xs.length xs.length hi - HT.sIx xs.length 0 lo)
theorem P4 (xs:List V) (lo hi:Option Int):(LU xs lo hi).length<=xs.length:=by
 unfold LU
 rw[a0J,a5W]
 omega
def A0n (K:Frg):V->Option Int->Option Int->Hp->VK->Prop:=fun x lo hi H Q=>∃a xs,x = .ref a/\SqT K H a xs /\
 ¬(HT.sIx xs.length 0 lo=0/\HT.sIx xs.length xs.length hi=xs.length)/\∀p,H p=none->Q (.ref p) (upd H p (.tup (LU xs lo hi)))
theorem uT:SlR X (A0n X.K):=by
 intro pins s σ H x v vl vu lo hi sl Q I rx hs pl pu h
 obtain⟨a,xs,rfl,hx,hw,q⟩:=h
 cases rx
 obtain⟨its,r,ht,hz⟩:=I.tuple hx
 have hlen:its.toArray.size=xs.length:=by rw[zJ];exact r.length.symm
 refine⟨"tuple", _,PyProof.Rows.slot_tuple_getitem.lookup,ht.typeIs,?_⟩
 refine HT.getItem_tuple_cut ht hs pl pu (by rw[hlen];exact hw) ?_ (by rw[hlen];exact hz)
 rw[hlen]
 refine⟨.ref s.heap.objs.size,_,I.laid (t':=s.toks) (o:=.tup (LU xs lo hi)) (fun b ob q=>zW _ q) (zR _) ?_,rfl,q _ (I.hok.fresh (zR _))⟩
 exact⟨zN (P4 xs lo hi) hz,_,(r.drop (HT.sIx xs.length 0 lo)).take (HT.sIx xs.length xs.length hi - HT.sIx xs.length 0 lo),IsTup.new _ _⟩
end
def ixN (n:Nat) (i:Int):Option Nat:=if 0<=i then (if i < n then some i.toNat else none) else if -(n:Int)<=i then some (i+n).toNat else none
def atI {α:Type}(xs:List α) (i:Int):Option α:=(ixN xs.length i).bind fun j=>xs[j]?
theorem dA {n:Nat}{i:Int}{j:Nat}(h:ixN n i=some j):seqIndex? i n=some j/\j < n/\-(n:Int)<=i/\i < n:=by
 unfold ixN at h
 by_cases h0:0<=i
 · rw[if_pos h0] at h
   by_cases h1:i < n
   · rw[if_pos h1] at h
     have e:i.toNat=j:=Option.some.inj h
     exact⟨by rw[seqIndex_of h0 h1,e],by omega,by omega,h1⟩
   · rw[if_neg h1] at h;cases h
 · rw[if_neg h0] at h
   by_cases h1 : -(n:Int)<=i
   · rw[if_pos h1] at h
     have e:(i+n).toNat=j:=Option.some.inj h
     exact⟨by rw[seqIndex_neg (by omega) h1,e],by omega,h1,by omega⟩
   · rw[if_neg h1] at h;cases h
theorem VI {α:Type}{xs:List α}{i:Int}{v:α}(h:atI xs i=some v):∃j,seqIndex? i xs.length=some j/\xs[j]?=some v/\j < xs.length/\-(xs.length:Int)<=i/\i < xs.length:=by
 unfold atI at h
 cases e:ixN xs.length i with
 | none=>rw[e] at h;cases h
 | some j=>
   rw[e] at h
   obtain⟨h1,h2,h3,h4⟩:=dA e
   exact⟨j,h1,h,h2,h3,h4⟩
theorem AC {α:Type}{xs:List α}{j:Nat}{v:α}(h:xs[j]?=some v):atI xs (j:Int)=some v:=by
 have hj:j < xs.length:=(yT.mp h).1
 have e:ixN xs.length (j:Int)=some j:=by
   unfold ixN
   rw[if_pos (by omega),if_pos (by omega)];simp
 unfold atI;rw[e];exact h
def oT (b:Expr):Prop:=∀o i,subscripted b false o i=operate [o,i] (getItem o i)
def IxR (X:Cx) (r:R2):Prop:=
 ∀(value slice:Expr) (pins:List (Addr×Obj)) (s:Shared) (σ:St) (H:Hp) (x y:V) (v u:Value) (Q:VK),Inv X pins σ H s->RelV x v->RelV y u->r x y H Q ->
   subscripted slice false v u=operate [v,u] (getItem v u)->wpAny (model X.prog X.w) X.A (subscriptTail value slice v u) (EP X pins σ Q) X.xe s
def MtR (X:Cx) (id:String) (r:V->List V->Hp->VK->Prop):Prop:=
 ∀(pins:List (Addr×Obj)) (s:Shared) (σ:St) (H:Hp) (x:V) (xs:List V) (v:Value) (us:List Value) (Q:VK),Inv X pins σ H s->RelV x v->Vals xs us->r x xs H Q ->
   wpAny (model X.prog X.w) X.A (call (.builtin id) (v::us)) (EP X pins σ Q) X.xe s
section
variable {X:Cx}{a b:Expr}{ta tb:TE}{pos:Pos}
theorem IxR.or {r r':R2}(h:IxR X r) (h':IxR X r'):IxR X (fun x y H Q=>r x y H Q∨r' x y H Q):=by
 intro value slice pins s σ H x y v u Q I rx ry q hs
 rcases q with q | q
 · exact h value slice pins s σ H x y v u Q I rx ry q hs
 · exact h' value slice pins s σ H x y v u Q I rx ry q hs
theorem zE {r:R2}(hr:IxR X r) (ha:PE X a ta) (hb:PE X b tb) (hs:oT b):PE X (.Subscript a b pos) (tOp r ta tb):=by
 intro pins s σ H Q I h
 exact Subscript_ (uF ha hb I h fun v u s2 x y H2 I2 rx ry q=>hr a b pins s2 σ H2 x y v u Q I2 rx ry q (hs _ _))
def oU (K:Frg):R2:=fun x y H Q=>∃p xs i v,x = .ref p/\y = .int i/\SqL K H p xs/\atI xs i=some v/\Q v H
def uU (K:Frg):R2:=fun x y H Q=>∃p xs i v,x = .ref p/\y = .int i/\SqT K H p xs/\atI xs i=some v/\Q v H
def uV:R2:=fun x y H Q=>∃z i c,x = .str z/\y = .int i/\z.length<=sizeLine/\atI z.cps.toList i=some c/\Q (.str ⟨#[c]⟩) H
theorem oV:IxR X (oU X.K):=by
 intro value slice pins s σ H x y v u Q I rx ry h hs
 obtain⟨p,xs,i,z,rfl,rfl,hq,he,q⟩:=h
 cases rx
 obtain⟨t,rfl⟩:=ry
 obtain⟨its,r,pl,hz⟩:=I.list hq
 obtain⟨j,h1,h2,h3,h4,h5⟩:=VI he
 obtain⟨w,ew,rw'⟩:=r.get h2
 have hl:=r.length
 have hn:=R5
 have fin:EP X pins σ Q w s:=⟨z,H,I,rw',q⟩
 by_cases h0:0<=i
 · have hj:i.toNat=j:=by
     rw[seqIndex_of h0 h5] at h1
     exact Option.some.inj h1
   exact item_listR pl.isList h0 (by omega) (by rw[hj];simpa using ew) fin hs
 · have hj:(i+(its.toArray.size:Int)).toNat=j:=by
     rw[seqIndex_neg (by omega) h4] at h1
     rw[zJ,← hl]
     exact Option.some.inj h1
   exact subscriptTail_builtinR (x:=w) pl.isList.typeIs slot_list_getitem.lookup
     (wpAny_getItem_list_neg (Q:=fun r s'=>r=w/\EP X pins σ Q r s') pl.isList (by omega) (by rw[zJ] <;> omega) (by omega) (by rw[hj];simpa using ew) ⟨rfl,fin⟩) hs
theorem uW:IxR X (uU X.K):=by
 intro value slice pins s σ H x y v u Q I rx ry h hs
 obtain⟨p,xs,i,z,rfl,rfl,hq,he,q⟩:=h
 cases rx
 obtain⟨t,rfl⟩:=ry
 obtain⟨its,r,pl,hz⟩:=I.tuple hq
 obtain⟨j,h1,h2,h3,h4,h5⟩:=VI he
 obtain⟨w,ew,rw'⟩:=r.get h2
 have hl:=r.length
 have hn:=R5
 have fin:EP X pins σ Q w s:=⟨z,H,I,rw',q⟩
 exact subscriptTail_builtinR (x:=w) pl.typeIs slot_tuple_getitem.lookup
   (getItem_tuple (j:=j) (Q:=fun r s'=>r=w/\EP X pins σ Q r s') pl (by omega) (by omega) (by rw[zJ,← hl];exact h1) (by simpa using ew) ⟨rfl,fin⟩) hs
theorem uX:IxR X uV:=by
 intro value slice pins s σ H x y v u Q I rx ry h hs
 obtain⟨z,i,c,rfl,rfl,hz,he,q⟩:=h
 obtain⟨t,rfl⟩:=rx
 obtain⟨t',rfl⟩:=ry
 obtain⟨j,h1,h2,h3,h4,h5⟩:=VI he
 have hl:z.cps.toList.length=z.length:=by simp[Str.length]
 rw[hl] at h1 h4 h5
 have hn:=R5
 exact tail_any (typeIs_str s z t) slot_str_getitem.lookup (getItem_str (c:=c) (by
   have e1:decide (i < -(2 ^ 63:Int))=false:=decide_eq_false (by omega)
   have e2:decide (i≥2 ^ 63)=false:=decide_eq_false (by omega)
   rw[e1,e2,Bool.or_false]) (by rw[h1];simpa using h2) ⟨.str ⟨#[c]⟩,H,I.tok _,⟨_,rfl⟩,q⟩) hs
theorem aS (its:List Value) (n j:Nat) (u:Value):a7J (·.setIfInBounds j u) { cls:=.type "list", data:=.seq its.toArray n }={ cls:=.type "list", data:=.seq (its.set j u).toArray n }:=by
 simp[a7J]
theorem Inv.lst {pins:List (Addr×Obj)}{σ:St}{H:Hp}{s:Shared}{p:Addr}{xs:List V}(I:Inv X pins σ H s) (h:H p=some (.lst xs)) :
   ∃(its:List Value) (n:Nat),Vals xs its/\s.heap.get? p=some { cls:=.type "list", data:=.seq its.toArray n }/\xs.length<=sizeLine:=by
 obtain⟨z,its,n,r,e⟩:=I.hok p _ h
 exact⟨its,n,r,e,z⟩
theorem Inv.lstUpd {pins:List (Addr×Obj)}{σ:St}{H:Hp}{s:Shared}{p:Addr}{xs ys:List V}{its its':List Value}{n n':Nat}{f:Obj->Obj}(I:Inv X pins σ H s) (h:H p=some (.lst xs))
   (ho:s.heap.get? p=some { cls:=.type "list", data:=.seq its.toArray n }) (hf:f { cls:=.type "list", data:=.seq its.toArray n }={ cls:=.type "list", data:=.seq its'.toArray n' }) (r:Vals ys its') (hz:ys.length<=sizeLine) (t:Nat) :
   Inv X pins σ (upd H p (.lst ys)) { s with heap:=s.heap.update p f,toks:=t }:=by
 have e:(s.heap.update p f).get? p=some { cls:=.type "list", data:=.seq its'.toArray n' }:=by
   rw[Heap.get?_update_self f ho (by rw[hf] <;> rfl),hf]
 refine I.write (x:=p) (e:=p) (by rw[h];trivial) (.inl rfl) (fun b u hb q=>(Heap.get?_update_other _ _ (b4Z hb)).trans q) ⟨_,e⟩ ?_
 exact⟨hz,its',n',r,e⟩
def t0:V->V->V->Hp->(Hp->Prop)->Prop:=fun o i v H Q=>∃p xs k j,o = .ref p/\i = .int k/\H p=some (.lst xs)/\ixN xs.length k=some j/\Q (upd H p (.lst (xs.set j v)))
theorem jP:yB X t0:=by
 intro pins s σ H o i v ov iv u Q I ro ri rv h
 obtain⟨p,xs,k,j,rfl,rfl,hp,hj,q⟩:=h
 cases ro
 obtain⟨t,rfl⟩:=ri
 obtain⟨its,n,r,ho,hz⟩:=I.lst hp
 obtain⟨h1,h2,h3,h4⟩:=dA hj
 have hl:=r.length
 have hn:=R5
 have I':Inv X pins σ (upd H p (.lst (xs.set j v))) { s with heap:=s.heap.update p (a7J (·.setIfInBounds j u)) }:=
   I.lstUpd hp ho (aS its n j u) (r.set rv j) (by rw[List.length_set];exact hz) s.toks
 by_cases h0:0<=k
 · have hk:k.toNat=j:=by
     rw[seqIndex_of h0 h4] at h1
     exact Option.some.inj h1
   exact PySem.W.ki_setAt ho h0 (by omega) (by rw[zJ,← hl];exact h4) (by rw[hk];exact⟨_,I',q⟩)
 · have hk:(k+(its.toArray.size:Int)).toNat=j:=by
     rw[seqIndex_neg (by omega) h3] at h1
     rw[zJ,← hl]
     exact Option.some.inj h1
   exact PySem.W.ki_setBack ho (by omega) (by rw[zJ,← hl];exact h3) (by omega) (by rw[hk];exact⟨_,I',q⟩)
theorem VJ (lo hi:Option Int) (n:Nat):(sliceBounds lo hi none n).1=((HT.sIx n 0 lo:Nat):Int)/\(sliceBounds lo hi none n).2.1=((HT.sIx n n hi:Nat):Int)/\(sliceBounds lo hi none n).2.2=1:=by
 refine⟨?_,?_,rfl⟩
 · cases lo with
   | none=>simp[sliceBounds,HT.sIx]
   | some i=>
     simp only[sliceBounds,HT.sIx,Option.getD_none,show(1:Int) > 0 by decide,if_true]
     by_cases h:i < 0
     · simp only[h,if_true] <;> omega
     · simp only[h,if_false] <;> omega
 · cases hi with
   | none=>simp[sliceBounds,HT.sIx]
   | some i=>
     simp only[sliceBounds,HT.sIx,Option.getD_none,show(1:Int) > 0 by decide,if_true]
     by_cases h:i < 0
     · simp only[h,if_true] <;> omega
     · simp only[h,if_false] <;> omega
theorem TH (its:List Value) (lo hi:Option Int):slicePick its.toArray lo hi none=((its.drop (HT.sIx its.length 0 lo)).take (HT.sIx its.length its.length hi - HT.sIx its.length 0 lo)).toArray:=by
 obtain⟨h1,h2,h3⟩:=VJ lo hi its.toArray.size
 unfold slicePick
 rw[h1,h2,h3]
 simp only[sliceRange_one,pick_run,zJ] <;> rfl
def uY (K:Frg):V->Option Int->Option Int->Hp->VK->Prop:=fun x lo hi H Q=>∃a xs,x = .ref a/\SqL K H a xs/\∀p,H p=none->Q (.ref p) (upd H p (.lst (LU xs lo hi)))
theorem oW:SlR X (uY X.K):=by
 intro pins s σ H x v vl vu lo hi sl Q I rx hs pl pu h
 obtain⟨a,xs,rfl,hx,q⟩:=h
 cases rx
 obtain⟨its,r,ht,hz⟩:=I.list hx
 have hlen:=r.length
 refine⟨"list", _,slot_list_getitem.lookup,ht.isList.typeIs,?_⟩
 refine wpAny_getItem_list_slice ht.isList hs pl pu .none (by simp) ?_ (by rw[zJ] <;> omega)
 rw[TH,← hlen]
 refine⟨.ref s.heap.objs.size,_,I.laid (t':=s.toks) (o:=.lst (LU xs lo hi)) (fun b ob q=>zW _ q) (zR _) ?_,rfl,q _ (I.hok.fresh (zR _))⟩
 exact⟨zN (P4 xs lo hi) hz,_,0,(r.drop (HT.sIx xs.length 0 lo)).take (HT.sIx xs.length xs.length hi - HT.sIx xs.length 0 lo),yZ _ rfl⟩
def L4:V->Bool
 | .non=>true
 | .bl _=>true
 | .int _=>true
 | .str _=>true
 | _=>false
def eqV:V->V->Bool
 | .non,.non=>true
 | .bl a,.bl b=>a==b
 | .bl a,.int b=>(if a then 1 else 0)==b
 | .int a,.bl b=>a==(if b then 1 else 0)
 | .int a,.int b=>a==b
 | .str a,.str b=>a==b
 | _,_=>false
theorem uZ {A:Around}{s:Shared}{y x:V}{u v:Value}(ry:RelV y u) (rx:RelV x v) (fy:L4 y=true) (fx:L4 x=true):SeqAt.EqAt A s u v (eqV y x):=by
 cases y with
 | non=>
   cases ry
   cases x with
   | non=>cases rx;exact SeqAt.EqAt.same _
   | bl b=>cases rx;exact SeqAt.EqAt.none_bool b
   | int b=>obtain⟨t,rfl⟩:=rx;exact SeqAt.EqAt.none_int b t
   | str b=>obtain⟨t,rfl⟩:=rx;exact SeqAt.EqAt.none_str b t
   | _=>exact absurd (show false=true from fx) nft
 | bl a=>
   cases ry
   cases x with
   | non=>cases rx;exact SeqAt.EqAt.bool_none a
   | bl b=>cases rx;exact SeqAt.EqAt.bool_bool a b
   | int b=>obtain⟨t,rfl⟩:=rx;exact SeqAt.EqAt.bool_int a b t
   | str b=>obtain⟨t,rfl⟩:=rx;exact SeqAt.EqAt.bool_str a b t
   | _=>exact absurd (show false=true from fx) nft
 | int a=>
   obtain⟨t',rfl⟩:=ry
   cases x with
   | non=>cases rx;exact SeqAt.EqAt.int_none a t'
   | bl b=>cases rx;exact SeqAt.EqAt.int_bool a t' b
   | int b=>obtain⟨t,rfl⟩:=rx;exact SeqAt.EqAt.int_int a t' b t
   | str b=>obtain⟨t,rfl⟩:=rx;exact SeqAt.EqAt.int_str a t' b t
   | _=>exact absurd (show false=true from fx) nft
 | str a=>
   obtain⟨t',rfl⟩:=ry
   cases x with
   | non=>cases rx;exact SeqAt.EqAt.str_none a t'
   | bl b=>cases rx;exact SeqAt.EqAt.str_bool a t' b
   | int b=>obtain⟨t,rfl⟩:=rx;exact SeqAt.EqAt.str_int a t' b t
   | str b=>obtain⟨t,rfl⟩:=rx;exact SeqAt.EqAt.str_str a t' b t
   | _=>exact absurd (show false=true from fx) nft
 | _=>exact absurd (show false=true from fy) nft
def eqU (x:V) (u:Value):Bool:=match u with
 | .none=>eqV .non x
 | .bool b=>eqV (.bl b) x
 | .int i _=>eqV (.int i) x
 | .str z _=>eqV (.str z) x
 | _=>false
theorem jQ {x y:V}{u:Value}(r:RelV y u) (f:L4 y=true):eqU x u=eqV y x:=by
 cases y with
 | non=>cases r;rfl
 | bl b=>cases r;rfl
 | int i=>obtain⟨t,rfl⟩:=r;rfl
 | str z=>obtain⟨t,rfl⟩:=r;rfl
 | _=>exact absurd (show false=true from f) nft
theorem VL {x:V}:∀{xs:List V}{us:List Value},Vals xs us->xs.all L4=true->us.any (eqU x)=xs.any fun y=>eqV y x
 | _,_,.nil,_=>rfl
 | y::xs,u::us,.cons r t,f=>by
   rw[List.all_cons,a0W] at f
   rw[a9J,a9J,jQ r f.1,VL t f.2]
theorem R7 {A:Around}{s:Shared}{x:V}{v:Value}(rx:RelV x v) (fx:L4 x=true):∀{xs:List V}{us:List Value},Vals xs us->xs.all L4=true->∀u∈us,SeqAt.EqAt A s u v (eqU x u)
 | _,_,.nil,_=>fun u hu=>by cases hu
 | y::xs,u::us,.cons r t,f=>fun u' hu=>by
   rw[List.all_cons,a0W] at f
   rcases yX.mp hu with rfl | hu
   · rw[jQ r f.1];exact uZ r rx f.1 fx
   · exact R7 rx fx t f.2 u' hu
def inV (x:V) (xs:List V):Bool:=xs.any fun y=>eqV y x
def rIn (K:Frg) (neg:Bool):R2:=fun x y H Q=>∃p xs,y = .ref p/\(SqL K H p xs∨SqT K H p xs)/\L4 x=true/\xs.all L4=true/\Q (.bl (if neg then !inV x xs else inV x xs)) H
theorem fZ:OpR X (compareOp .In) (rIn X.K false):=by
 intro pins s σ H x y v u Q I rx ry h
 obtain⟨p,xs,rfl,hq,fx,fs,q⟩:=h
 cases ry
 rcases hq with hq | hq
 · obtain⟨its,r,pl,hz⟩:=I.list hq
   refine SeqAt.in_listAt (eqU x) pl.isList (fun w hw=>R7 rx fx r fs w (by simpa using hw)) ⟨.bl _,H,I,rfl,?_⟩
   rw[show its.toArray.any (eqU x)=its.any (eqU x) by simp,VL r fs]
   exact q
 · obtain⟨its,r,pl,hz⟩:=I.tuple hq
   refine SeqAt.in_tupleAt (eqU x) pl (fun w hw=>R7 rx fx r fs w (by simpa using hw)) ⟨.bl _,H,I,rfl,?_⟩
   rw[show its.toArray.any (eqU x)=its.any (eqU x) by simp,VL r fs]
   exact q
theorem VM:BO X (.type "list") (fun xs H Q=>∃p ys,xs=[.ref p]/\(SqL X.K H p ys∨SqT X.K H p ys)/\∀l,H l=none->Q (.ref l) (upd H l (.lst ys))):=by
 intro pins s σ H xs us Q I r h
 obtain⟨p,ys,rfl,hq,q⟩:=h
 obtain⟨u,rfl,rx⟩:=F6 r
 cases rx
 have fin:∀(its:List Value),Vals ys its->ys.length<=sizeLine->∀(h':Heap) (c':Nat),(∀b o',s.heap.get? b=some o'->h'.get? b=some o') ->
     h'.get? s.heap.objs.size=some { cls:=.type "list", dict:=none,data:=.seq its.toArray c',slots:=#[] }->EP X pins σ Q (.ref s.heap.objs.size) { s with heap:=h' }:=fun its r' hz h' c' kp e=>
   ⟨.ref s.heap.objs.size,_,I.laid (t':=s.toks) kp (zR _) (show ObjOk X.prog X.w _ h' _ (.lst ys) from ⟨hz,its,c',r',e⟩),rfl,q _ (I.hok.fresh (zR _))⟩
 rcases hq with hq | hq
 · obtain⟨its,r',pl,hz⟩:=I.list hq
   have hlen:=r'.length
   obtain⟨o,ho,hc,n,hd⟩:=pl.isList
   exact call_list_seq p (.inl rfl) ho hc hd (fun h' c' kp e=>fin its r' hz h' c' kp e) (by simp only[zJ] <;> omega)
 · obtain⟨its,r',pl,hz⟩:=I.tuple hq
   have hlen:=r'.length
   obtain⟨o,ho,hc,n,hd⟩:=pl
   exact call_list_seq p (.inr rfl) ho hc hd (fun h' c' kp e=>fin its r' hz h' c' kp e) (by simp only[zJ] <;> omega)
theorem TJ:BO X (.type "tuple") (fun xs H Q=>∃p ys,xs=[.ref p]/\((SqL X.K H p ys/\∀l,H l=none->Q (.ref l) (upd H l (.tup ys)))∨(SqT X.K H p ys/\Q (.ref p) H))):=by
 intro pins s σ H xs us Q I r h
 obtain⟨p,ys,rfl,h⟩:=h
 obtain⟨u,rfl,rx⟩:=F6 r
 cases rx
 rcases h with ⟨hq,q⟩ | ⟨hq,q⟩
 · obtain⟨its,r',pl,hz⟩:=I.list hq
   have hlen:=r'.length
   refine call_tuple_list pl.isList (fun h' kp=>?_) (by simp only[zJ] <;> omega)
   have I1:Inv X pins σ H { s with heap:=h' }:=I.kept (t':=s.toks) kp
   have I2:Inv X pins σ (upd H h'.objs.size (.tup ys)) { s with heap:=h'.push { cls:=.type "tuple", data:=.seq its.toArray } }:=
     I1.laid (t':=s.toks) (fun b o e=>zW _ e) (zR _) (show ObjOk X.prog X.w _ _ _ (.tup ys) from ⟨hz,its,r',IsTup.new _ _⟩)
   exact⟨.ref h'.objs.size,_,I2,rfl,q _ (I1.hok.fresh (zR _))⟩
 · obtain⟨its,r',pl,hz⟩:=I.tuple hq
   exact call_tuple_same pl ⟨.ref p,H,I,rfl,q⟩
def tyV (K:Frg) (T:String) (x:V) (H:Hp):Prop:=match x with
 | .str _=>T = "str"
 | .int _=>T = "int"
 | .ref p=>(T = "list" /\ ∃xs,SqL K H p xs)∨(T = "tuple" /\ ∃o,K.lookup p=some o/\o.cls = .type "tuple" /\ o.dict=none) ∨
     (T = "dict" /\ ((∃kvs,H p=some (.dK kvs))∨∃kvs,H p=some (.dT kvs)))∨(T = "set" /\ ∃S n,H p=some (.set S n))
 | _=>False
theorem v6 {pins:List (Addr×Obj)}{σ:St}{H:Hp}{s:Shared}{T:String}{x:V}{v:Value}(I:Inv X pins σ H s) (r:RelV x v) (ty:tyV X.K T x H) :
   s.TypeIs v T/\∀a,v = .ref a->∃ob,s.heap.get? a=some ob/\ob.dict=none:=by
 cases x with
 | str z=>
   obtain⟨t,rfl⟩:=r
   cases (show T = "str" from ty)
   exact⟨typeIs_str s z t,fun _ e=>nomatch e⟩
 | int i=>
   obtain⟨t,rfl⟩:=r
   cases (show T = "int" from ty)
   exact⟨typeIs_int s i t,fun _ e=>nomatch e⟩
 | ref p=>
   cases r
   rcases ty with ⟨rfl,xs,hq⟩ | ⟨rfl,o,hk,hc,hd⟩ | ⟨rfl,hk⟩ | ⟨rfl,S,n,hk⟩
   · obtain⟨its,_,pl,_⟩:=I.list hq
     refine⟨pl.isList.typeIs,fun a e=>?_⟩
     cases e
     obtain⟨o,n,e,c,hd,_⟩:=pl
     exact⟨o,e,hd⟩
   · refine⟨⟨o,I.kIn p o hk,hc⟩,fun a e=>?_⟩
     cases e
     exact⟨o,I.kIn _ o hk,hd⟩
   · have z:∃o,s.heap.get? p=some o/\o.ExactDict:=by
       rcases hk with ⟨kvs,hk⟩ | ⟨kvs,hk⟩
       · obtain⟨_,_,_,_,o,_,_,e,ex,_⟩:=I.hok p _ hk
         exact⟨o,e,ex⟩
       · obtain⟨_,_,_,_,o,_,_,e,ex,_⟩:=I.hok p _ hk
         exact⟨o,e,ex⟩
     obtain⟨o,e,ex⟩:=z
     refine⟨⟨o,e,ex.1⟩,fun a e2=>?_⟩
     cases e2
     exact⟨o,e,ex.2.1⟩
   · obtain⟨o,_,_,_,e,ex,_⟩:=I.hok p _ hk
     refine⟨⟨o,e,ex.1⟩,fun a e2=>?_⟩
     cases e2
     exact⟨o,e,ex.2.1⟩
 | _=>exact b2Z ty
def tBM (K:Frg) (T:String) (r:V->List V->Hp->VK->Prop) (to:TE) (t:TA):TE:=fun σ H Q=>to σ H fun x H1=>tyV K T x H1/\t σ H1 fun xs H2=>r x xs H2 Q
variable {o e:Expr}{es:List Expr}{to:TE}{t:TA}{name:Str}{apos cpos:Pos}{T id:String}{r:V->List V->Hp->VK->Prop}
theorem zK (pa:PlainAttrs T) (slot:Slot T name id) (hty:typeOf (.builtin id)=pure (.type "method_descriptor")) (hm:MtR X id r) (ho:PE X o to) (ha:PA X (e::es) t)
   (hbase:attributeBase o name X.env (eval o X.env)=eval o X.env:=by rfl)
   (hfew:((backTo cpos (starEach (e::es) X.env)).all (fun x=>!x.1)&&(backToKw cpos (keywordEach [] X.env)).all (fun x=>x.1.isSome)
     && decide ((e::es).length+([]:List Keyword).length+(if ([]:List Keyword).isEmpty then 0 else 1) < 30))=true:=by rfl)
   (hline:(apos.endLine==cpos.line)=true:=by rfl) (hs:starEach (e::es) X.env=(false,eval e X.env)::starEach es X.env:=by rfl) (hplain:(backTo cpos (starEach es X.env)).any (·.1)=false:=by rfl) :
   PE X (.Call (.Attribute o name apos) (e::es) [] cpos) (tBM X.K T r to t):=by
 intro pins s σ H Q I h
 refine wpAny_Call_method_late hbase hfew hline rfl (thn (ho pins s σ H _ I h) fun v s1 ⟨x,H1,I1,r1,ty,q1⟩=>?_)
 obtain⟨h1,h2⟩:=v6 I1 r1 ty
 refine⟨T,id,pa,slot,hty,h1,h2,?_⟩
 have hA:=ha cpos pins s1 σ H1 _ I1 q1
 rw[hs] at hA ⊢
 refine b3K (by show(false||(backTo cpos (starEach es X.env)).any (·.1))=false;rw[hplain] <;> rfl) (b4W ?_)
 exact thn hA fun us s2 ⟨vs,H2,I2,r2,q2⟩=>hm pins s2 σ H2 x vs v us Q I2 r1 r2 q2
end
def MtM (X:Cx) (id:String) (r:V->List V->Hp->VK->Prop):Prop:=
 ∀(pins:List (Addr×Obj)) (s:Shared) (σ:St) (H:Hp) (x:V) (xs:List V) (v:Value) (us:List Value) (Q:VK),Inv X pins σ H s->RelV x v->Vals xs us->r x xs H Q ->
   wpAny (model X.prog X.w) X.A (call (.builtin id) (v::us)) (EP X pins σ Q) X.xe s
theorem Vals.one:∀{x:V}{us:List Value},Vals [x] us->∃u,us=[u]/\RelV x u
 | _,_,.cons r .nil=>⟨_,rfl,r⟩
section
variable {X:Cx}{pins:List (Addr×Obj)}{σ:St}{H:Hp}{s:Shared}{l b:Addr}{xs ys zs:List V}
theorem Inv.lset {its its':List Value}{n:Nat}{f:Array Value->Array Value}{t':Nat}(I:Inv X pins σ H s) (hH:H l=some (.lst xs))
   (e:s.heap.get? l=some { cls:=.type "list", data:=.seq its.toArray n }) (hf:f its.toArray=its'.toArray) (hv:Vals ys its') (hz:ys.length<=sizeLine) :
   Inv X pins σ (upd H l (.lst ys)) { s with heap:=s.heap.update l (a7J f),toks:=t' }:=by
 have q:=PySem.IsL.update e f
 rw[hf] at q
 refine I.write (x:=l) (e:=l) (by rw[hH];exact trivial) (.inl rfl) (fun b' u hb hu=>(Heap.get?_update_other s.heap (a7J f) (b4Z hb)).trans hu) ⟨_,q⟩ ?_
 exact⟨hz,its',_,hv,q⟩
theorem Inv.lnew {its:List Value}{t':Nat}(I:Inv X pins σ H s) (hv:Vals ys its) (hz:ys.length<=sizeLine) :
   Inv X pins σ (upd H s.heap.objs.size (.lst ys)) { s with heap:=s.heap.push { cls:=.type "list", data:=.seq its.toArray },toks:=t' }:=
 I.laid (fun _ _ q=>zW _ q) (zR _) ⟨hz,its,0,hv,yZ _ rfl⟩
theorem Inv.fresh (I:Inv X pins σ H s):H s.heap.objs.size=none:=I.hok.fresh (zR _)
theorem Inv.lstM (I:Inv X pins σ H s) (hH:H l=some (.lst xs)):xs.length<=sizeLine/\∃(its:List Value) (n:Nat),Vals xs its/\xs.length=its.length/\s.heap.get? l=some { cls:=.type "list", data:=.seq its.toArray n }:=by
 obtain⟨z,its,n,r,e⟩:=I.hok l _ hH
 exact⟨z,its,n,r,r.length,e⟩
end
section
variable {X:Cx}
def VN:V->List V->Hp->VK->Prop:=fun x vs H Q=>∃l xs y,x = .ref l/\vs=[y]/\H l=some (.lst xs)/\xs.length < sizeLine/\Q .non (upd H l (.lst (xs++[y])))
theorem UF:MtM X "list.append" VN:=by
 intro pins s σ H x vs v us Q I rx rv h
 obtain⟨l,xs,y,rfl,rfl,hH,hz,q⟩:=h
 cases rx
 obtain⟨u,rfl,ru⟩:=rv.one
 obtain⟨z,its,n,r,hl,e⟩:=I.lstM hH
 refine call_meets F.slot_list_append ⟨_,e,rfl⟩ F.entry_list_append (F.args_list_append_2 _ _) (PySem.list_append l its.toArray n u (by rw[zJ];omega)) ⟨e,?_⟩
 refine⟨.non,_,I.lset (its':=its++[u]) hH e (by simp) (r.append (.cons ru .nil)) ?_,rfl,q⟩
 rw[yY,List.length_singleton]
 omega
end
section
variable {κ:Type}[DecidableEq κ]
def E9 (kvs:List (κ×V)) (k:κ):Option V:=(kvs.find? fun kv=>decide (kv.1=k)).map (·.2)
def EX (kvs:List (κ×V)) (k:κ) (v:V):List (κ×V):=
 if (kvs.any fun kv=>decide (kv.1=k))=true then kvs.map (fun kv=>if kv.1=k then (kv.1,v) else kv) else kvs++[(k,v)]
def MQ (kvs:List (κ×V)) (k:κ):List (κ×V):=kvs.filter fun kv=>decide (kv.1≠k)
theorem JN {p:κ×V}{r:List (κ×V)}{k:κ}(e:p.1=k):E9 (p::r) k=some p.2:=by simp[E9,a9Q,e]
theorem FV {p:κ×V}{r:List (κ×V)}{k:κ}(e:¬p.1=k):E9 (p::r) k=E9 r k:=by simp[E9,a9Q,e]
theorem XO (k:κ):∀kvs:List (κ×V),(kvs.any fun kv=>decide (kv.1=k))=(E9 kvs k).isSome
 | []=>rfl
 | p::r=>by
   rw[a9J]
   by_cases e:p.1=k
   · simp only[JN e,decide_eq_true e,Bool.true_or,Option.isSome_some]
   · rw[FV e,decide_eq_false e,Bool.false_or];exact XO k r
theorem GF (kvs:List (κ×V)) (k:κ) (v:V):(EX kvs k v).length<=kvs.length+1:=by
 unfold EX
 split
 · rw[zX];omega
 · rw[yY,yR,b2W];omega
theorem RelO.isSome_eq {o:Option V}{u:Option Value}(r:RelO o u):o.isSome=u.isSome:=by
 cases o with
 | none=>cases u with
   | none=>rfl
   | some _=>exact(show False from r).elim
 | some _=>cases u with
   | none=>exact(show False from r).elim
   | some _=>rfl
theorem RelO.getD {o:Option V}{u:Option Value}{d:V}{d':Value}(r:RelO o u) (rd:RelV d d'):RelV (o.getD d) (u.getD d'):=by
 cases o with
 | none=>cases u with
   | none=>exact rd
   | some _=>exact(show False from r).elim
 | some _=>cases u with
   | none=>exact(show False from r).elim
   | some _=>exact r
theorem KV.val {kvs:List (κ×V)}{vs:List (κ×Value)}(r:KV kvs vs) (k:κ):RelO (E9 kvs k) (valueAt vs k):=by
 unfold KV at r
 induction r with
 | nil=>exact a7Q
 | @cons p q ps qs h t ih=>
   obtain⟨h1,h2⟩:=h
   by_cases e:p.1=k
   · have e':q.1=k:=h1.symm.trans e
     have b:valueAt (q::qs) k=some q.2:=by simp[valueAt,a9Q,e']
     rw[JN e,b];exact h2
   · have e':¬q.1=k:=fun z=>e (h1.trans z)
     have b:valueAt (q::qs) k=valueAt qs k:=by simp[valueAt,a9Q,e']
     rw[FV e,b];exact ih
theorem KV.any {kvs:List (κ×V)}{vs:List (κ×Value)}(r:KV kvs vs) (k:κ):(kvs.any fun kv=>decide (kv.1=k))=vs.any fun kv=>decide (kv.1=k):=by
 unfold KV at r
 induction r with
 | nil=>rfl
 | cons h t ih=>rw[a9J,a9J,ih,h.1]
theorem KV.repl {kvs:List (κ×V)}{vs:List (κ×Value)}(r:KV kvs vs) (k:κ) {y:V}{u:Value}(ry:RelV y u) :
   KV (kvs.map fun kv=>if kv.1=k then (kv.1,y) else kv) (vs.map fun kv=>if kv.1=k then (kv.1,u) else kv):=by
 unfold KV at r ⊢
 induction r with
 | nil=>exact .nil
 | @cons p q ps qs h t ih=>
   rw[zI,zI]
   refine .cons ?_ ih
   obtain⟨h1,h2⟩:=h
   by_cases e:p.1=k
   · rw[if_pos e,if_pos (h1.symm.trans e)];exact⟨h1,ry⟩
   · rw[if_neg e,if_neg (fun z=>e (h1.trans z))];exact⟨h1,h2⟩
theorem KV.put {kvs:List (κ×V)}{vs:List (κ×Value)}(r:KV kvs vs) (k:κ) {y:V}{u:Value}(ry:RelV y u):KV (EX kvs k y) (stored vs k u):=by
 unfold EX stored
 rw[r.any k]
 by_cases e:(vs.any fun kv=>decide (kv.1=k))=true
 · rw[if_pos e,if_pos e];exact r.repl k ry
 · rw[if_neg e,if_neg e];exact Paired.snoc r ⟨rfl,ry⟩
theorem KV.drop {kvs:List (κ×V)}{vs:List (κ×Value)}(r:KV kvs vs) (k:κ):KV (MQ kvs k) (without vs k):=by
 unfold KV at r ⊢
 unfold MQ without
 induction r with
 | nil=>exact .nil
 | @cons p q ps qs h t ih=>
   obtain⟨h1,h2⟩:=h
   rw[a7X,a7X]
   by_cases e:p.1=k
   · have a:¬decide (p.1≠k)=true:=by simp[e]
     have b:¬decide (q.1≠k)=true:=by simp[h1.symm.trans e]
     rw[if_neg a,if_neg b];exact ih
   · have e':¬q.1=k:=fun z=>e (h1.trans z)
     have a:decide (p.1≠k)=true:=by simp[e]
     have b:decide (q.1≠k)=true:=by simp[e']
     rw[if_pos a,if_pos b];exact .cons ⟨h1,h2⟩ ih
theorem KV.length {kvs:List (κ×V)}{vs:List (κ×Value)}(r:KV kvs vs):kvs.length=vs.length:=Paired.length r
theorem XQ (kvs:List (κ×V)) (k:κ):(MQ kvs k).length<=kvs.length:=yJ _ _
end
theorem JO {P:Program}{w:World}{k:Key}{u:Value}(r:RelV (kV k) u):(AO P w).is k u=true:=by
 cases k with
 | inl i=>obtain⟨t,e⟩:=(show ∃t,u=b5V i t from r);subst e;exact XF P w i t
 | inr x=>obtain⟨t,e⟩:=(show ∃t,u=c1Q x t from r);subst e;exact P3 P w x t
theorem UG {P:Program}{w:World}:∀{ks:List Key}{us:List Value},Vals (ks.map kV) us->ItemsAre (AO P w) ks us
 | [],_,r=>by rw[a4J] at r;cases r;exact .nil
 | k::ks,_,r=>by
   rw[zI] at r
   cases r with
   | cons h t=>exact .cons (JO h) (UG t)
abbrev KT (H:Hp):List (List Key×V)->List (List Key×Addr×Value)->Prop:=Paired fun p q=>p.1=q.1/\H q.2.1=some (.tup (p.1.map kV))/\RelV p.2 q.2.2
theorem KT.val {H:Hp}{kvs:List (List Key×V)}{xs:List (List Key×Addr×Value)}(r:KT H kvs xs) (k:List Key):RelO (E9 kvs k) ((atKey xs k).map (·.2)):=by
 induction r with
 | nil=>exact a7Q
 | @cons p q ps qs h t ih=>
   obtain⟨h1,_,h2⟩:=h
   by_cases e:p.1=k
   · have e':q.1=k:=h1.symm.trans e
     have b:atKey (q::qs) k=some q.2:=by simp[atKey,a9Q,e']
     rw[JN e,b];exact h2
   · have e':¬q.1=k:=fun z=>e (h1.trans z)
     have b:atKey (q::qs) k=atKey qs k:=by simp[atKey,a9Q,e']
     rw[FV e,b];exact ih
theorem KT.repl {H:Hp}{kvs:List (List Key×V)}{xs:List (List Key×Addr×Value)}(r:KT H kvs xs) (k:List Key) {y:V}{u:Value}(ry:RelV y u) :
   KT H (kvs.map fun kv=>if kv.1=k then (kv.1,y) else kv) (xs.map (putAt k u)):=by
 induction r with
 | nil=>exact .nil
 | @cons p q ps qs h t ih=>
   rw[zI,zI]
   refine .cons ?_ ih
   obtain⟨h1,h2,h3⟩:=h
   unfold putAt
   by_cases e:p.1=k
   · rw[if_pos e,if_pos (h1.symm.trans e)];exact⟨h1,h2,ry⟩
   · rw[if_neg e,if_neg (fun z=>e (h1.trans z))];exact⟨h1,h2,h3⟩
theorem KT.put {H:Hp}{kvs:List (List Key×V)}{xs:List (List Key×Addr×Value)}(r:KT H kvs xs) (k:List Key) {b:Addr}{y:V}{u:Value}(hb:H b=some (.tup (k.map kV))) (ry:RelV y u) :
   KT H (EX kvs k y) (storedH xs k b u):=by
 have e:(kvs.any fun kv=>decide (kv.1=k))=(atKey xs k).isSome:=by
   rw[XO,(r.val k).isSome_eq,b3W]
 unfold EX storedH
 rw[e]
 by_cases q:(atKey xs k).isSome=true
 · rw[if_pos q,if_pos q];exact r.repl k ry
 · rw[if_neg q,if_neg q];exact Paired.snoc r ⟨rfl,hb,ry⟩
theorem KT.keeps {H H':Hp}{kvs:List (List Key×V)}{xs:List (List Key×Addr×Value)}(r:KT H kvs xs) (ht:∀b ys,H b=some (.tup ys)->H' b=some (.tup ys)):KT H' kvs xs:=
 Paired.mapP r fun _ _ z=>⟨z.1,ht _ _ z.2.1,z.2.2⟩
section
variable {P:Program}{w:World}{H:Hp}{h:Heap}{a:Addr}
theorem t7 {u:HO}(ok:HOk P w H h) (e:Rd H a u):ObjOk P w H h a u:=e.ok ok
theorem JP {kvs:List (Key×V)}(ok:HOk P w H h) (e:Rd H a (.dK kvs)):kvs.length<=sizeLine/\(a==sysModules)=false/\∃vs,KV kvs vs/\h.DictOf (AO P w) a vs:=
 show ObjOk P w H h a (.dK kvs) from t7 ok e
theorem XR {kvs:List (Key×V)}(ok:HOk P w H h) (e:H a=some (.dK kvs)):kvs.length<=sizeLine/\(a==sysModules)=false/\∃vs,KV kvs vs/\h.DictOf (AO P w) a vs:=JP ok (.inl e)
theorem OC {ks:List Key}(ok:HOk P w H h) (e:H a=some (.tup (ks.map kV))):(tupleKind (AO P w)).is h ks a:=by
 obtain⟨_,its,r,o,h1,h2,n,h3⟩:=(show ObjOk P w H h a (.tup (ks.map kV)) from ok a _ e)
 exact⟨o,its.toArray,n,h1,h2,h3,by simpa using UG r⟩
theorem R8 {kvs:List (List Key×V)}(ok:HOk P w H h) (e:Rd H a (.dT kvs)):kvs.length<=sizeLine/\(a==sysModules)=false /\
   ∃xs,KT H kvs xs/\h.DictOfH (tupleKind (AO P w)) a xs:=by
 obtain⟨z,y,xs,r,o,es,ep,h1,h2,h3,h4,h5⟩:=(show ObjOk P w H h a (.dT kvs) from t7 ok e)
 refine⟨z,y,xs,r,o,es,ep,h1,h2,h3,h4,fun x hx=>?_,h5⟩
 have all:∀{l:List (List Key×V)}{m:List (List Key×Addr×Value)},KT H l m->∀x∈m,(tupleKind (AO P w)).is h x.1 x.2.1:=by
   intro l m q
   induction q with
   | nil=>intro x hx;exact nomatch hx
   | @cons p q ps qs hq t ih=>
     intro x hx
     rcases yX.mp hx with e | hx
     · subst e
       exact OC ok (by rw[← hq.1];exact hq.2.1)
     · exact ih x hx
 exact all r x hx
theorem zO {kvs:List (List Key×V)}(ok:HOk P w H h) (e:H a=some (.dT kvs)):kvs.length<=sizeLine/\(a==sysModules)=false /\
   ∃xs,KT H kvs xs/\h.DictOfH (tupleKind (AO P w)) a xs:=R8 ok (.inl e)
end
def TK (H:Hp) (a:Addr) (y:V) (r:Option V):Prop:=
 (∃kvs k,Rd H a (.dK kvs)/\y=kV k/\r=E9 kvs k)∨∃kvs k b,Rd H a (.dT kvs)/\y = .ref b/\H b=some (.tup (k.map kV))/\r=E9 kvs k
def zS (H:Hp) (a:Addr) (y v:V) (H':Hp):Prop:=
 (∃kvs k,H a=some (.dK kvs)/\y=kV k/\kvs.length < sizeLine/\H'=upd H a (.dK (EX kvs k v))) ∨
 ∃kvs k b,H a=some (.dT kvs)/\y = .ref b/\H b=some (.tup (k.map kV))/\kvs.length < sizeLine/\H'=upd H a (.dT (EX kvs k v))
section
variable {X:Cx}{pins:List (Addr×Obj)}{σ:St}{H:Hp}{s:Shared}{a:Addr}{y v:V}{u r:Value}{o:Option V}{A:Around}{E:Value->Shared->Prop}
theorem Inv.big (I:Inv X pins σ H s):sysModules < s.heap.objs.size:=by
 have h:mainGlobals < s.heap.objs.size:=(I.mod.glob.keeps I.bk).lt
 exact xQ (by decide) h
theorem g6 {Q:Value->Shared->Prop}(hu:A.units+1 < cLine) (I:Inv X pins σ H s) (g:TK H a y (some v)) (ry:RelV y u) (h:∀w' s',Inv X pins σ H s'->RelV v w'->Q w' s') :
   wpAny (model X.prog X.w) A (getItem (.ref a) u) Q E s:=by
 rcases g with ⟨kvs,k,e,ey,l⟩ | ⟨kvs,k,b,e,ey,eb,l⟩
 · subst ey
   obtain⟨z,hd,vs,rel,dd⟩:=JP I.hok e
   obtain⟨w',hw,rw'⟩:=RelO.some_of (v:=v) (o:=valueAt vs k) (by rw[l];exact rel.val k)
   exact wpAny_getItem_of (JO ry) dd.mapOf hw (h w' _ (I.tok _) rw')
 · subst ey
   cases (show u=a0Z b from ry)
   obtain⟨z,hd,xs,rel,dd⟩:=R8 I.hok e
   obtain⟨w',hw,rw'⟩:=RelO.some_of (v:=v) (o:=(atKey xs k).map (·.2)) (by rw[l];exact rel.val k)
   obtain⟨p,hp,hp2⟩:=Option.map_eq_some_iff.mp hw
   refine wpAny_getItem_heap (tupleKind_room_in1 hu) (OC I.hok eb) dd hp ?_
   rw[hp2]
   exact h w' _ (I.tok _) rw'
theorem A0A {Q:Value->Shared->Prop}(hu:A.units+1 < cLine) (I:Inv X pins σ H s) (g:TK H a y o) (ry:RelV y u) (h:∀s',Inv X pins σ H s'->Q (.bool o.isSome) s') :
   wpAny (model X.prog X.w) A (compareOp .In u (.ref a)) Q E s:=by
 rcases g with ⟨kvs,k,e,ey,l⟩ | ⟨kvs,k,b,e,ey,eb,l⟩
 · subst ey
   obtain⟨z,hd,vs,rel,dd⟩:=JP I.hok e
   refine wpAny_in_of (JO ry) hd dd.mapOf ?_
   rw[← (rel.val k).isSome_eq,← l]
   exact h _ (I.tok _)
 · subst ey
   cases (show u=a0Z b from ry)
   obtain⟨z,hd,xs,rel,dd⟩:=R8 I.hok e
   refine wpAny_in_heap (tupleKind_room_in1 hu) (OC I.hok eb) hd dd ?_
   have q:=(rel.val k).isSome_eq
   rw[b3W] at q
   rw[← q,← l]
   exact h _ (I.tok _)
theorem oX {Q:Value->Shared->Prop}(hu:A.units+1 < cLine) (I:Inv X pins σ H s) (g:TK H a y o) (ry:RelV y u) (h:∀s',Inv X pins σ H s'->Q (.bool (!o.isSome)) s') :
   wpAny (model X.prog X.w) A (compareOp .NotIn u (.ref a)) Q E s:=by
 rcases g with ⟨kvs,k,e,ey,l⟩ | ⟨kvs,k,b,e,ey,eb,l⟩
 · subst ey
   obtain⟨z,hd,vs,rel,dd⟩:=JP I.hok e
   refine wpAny_notIn_of (JO ry) hd dd.mapOf ?_
   rw[← (rel.val k).isSome_eq,← l]
   exact h _ (I.tok _)
 · subst ey
   cases (show u=a0Z b from ry)
   obtain⟨z,hd,xs,rel,dd⟩:=R8 I.hok e
   refine wpAny_notIn_heap (tupleKind_room_in1 hu) (OC I.hok eb) hd dd ?_
   have q:=(rel.val k).isSome_eq
   rw[b3W] at q
   rw[← q,← l]
   exact h _ (I.tok _)
theorem KH {h':Heap}{t':Nat}{ob:HO}(I:Inv X pins σ H s) (mu:Mut (H a)) (hs:Heap.SameBut a s.heap h') (he:∃q,h'.get? a=some q) (new:ObjOk X.prog X.w (upd H a ob) h' a ob) :
   Inv X pins σ (upd H a ob) { s with heap:=h',toks:=t' }:=
 I.write (x:=a) (e:=a) mu (.inl rfl) (fun b q hb z=>(hs.2 b hb).trans z) he new
theorem R9 {P:Program}{w:World}{H':Hp}{h':Heap}{kvs:List (Key×V)}{vs:List (Key×Value)}(z:kvs.length<=sizeLine) (hd:(a==sysModules)=false) (rel:KV kvs vs) (dd:h'.DictOf (AO P w) a vs) :
   ObjOk P w H' h' a (.dK kvs):=⟨z,hd,vs,rel,dd⟩
theorem g9 {H':Hp}{Q:Unit->Shared->Prop}(hu:A.units+1 < cLine) (I:Inv X pins σ H s) (g:zS H a y v H') (ry:RelV y u) (rv:RelV v r) (h:∀s',Inv X pins σ H' s'->Q () s') :
   wpAny (model X.prog X.w) A (setItem (.ref a) u r) Q E s:=by
 rcases g with ⟨kvs,k,e,ey,l,eH⟩ | ⟨kvs,k,b,e,ey,eb,l,eH⟩
 · subst ey eH
   obtain⟨z,hd,vs,rel,dd⟩:=XR I.hok e
   have hz:vs.length<=sizeLine:=by rw[← rel.length];exact z
   have hl:(EX kvs k v).length<=sizeLine:=by have:=GF kvs k v;omega
   refine wpAny_setItem_pairs (hsz:=hz) (JO ry) dd fun h' dd' hs=>h _ ?_
   have he:∃q,h'.get? a=some q:=let ⟨q,_,_,hq,_⟩:=dd';⟨q,hq⟩
   exact KH I (by rw[e];exact a7Q) hs he (R9 hl hd (rel.put k rv) dd')
 · subst ey eH
   cases (show u=a0Z b from ry)
   obtain⟨z,hd,xs,rel,dd⟩:=zO I.hok e
   have hz:xs.length<=sizeLine:=by rw[← Paired.length rel];exact z
   have hl:(EX kvs k v).length<=sizeLine:=by have:=GF kvs k v;omega
   refine wpAny_setItem_heap (hsz:=hz) (tupleKind_room_in1 hu) (OC I.hok eb) dd fun h' dd' hs=>h _ ?_
   obtain⟨q,es,ep,hq,h2,h3,h4,_,h5⟩:=dd'
   refine KH I (by rw[e];exact a7Q) hs ⟨q,hq⟩ ⟨hl,hd,_,(rel.put k eb rv).keeps fun c ys ec=>?_,q,es,ep,hq,h2,h3,h4,h5⟩
   rw[AM (xF ec e (fun z=>nomatch z))]
   exact ec
end
section
variable {X:Cx}{pins:List (Addr×Obj)}{σ:St}{H:Hp}{s:Shared}{a:Addr}{kvs:List (Key×V)}{k:Key}{u:Value}{A:Around}{E:Value->Shared->Prop}
theorem gA {Q:Unit->Shared->Prop}(I:Inv X pins σ H s) (e:H a=some (.dK kvs)) (ry:RelV (kV k) u) (l:(E9 kvs k).isSome=true) (h:∀s',Inv X pins σ (upd H a (.dK (MQ kvs k))) s'->Q () s') :
   wpAny (model X.prog X.w) A (delItem (.ref a) u) Q E s:=by
 obtain⟨z,hd,vs,rel,dd⟩:=XR I.hok e
 refine wpAny_delItem_slot dd.typeIs (by decide) PySem.F.slot_dict_delitem
   (call_meetsIn PySem.F.slot_dict_delitem dd.typeIs PySem.F.entry_dict_delitem (PySem.F.args_dict_delitem_2 _ _) (meets_dict_delitem_pairs (AO X.prog X.w) a (JO ry)) ⟨vs,dd,by rw[← rel.length];exact z,by rw[← (rel.val k).isSome_eq];exact l,fun h' dd' hs=>h _ ?_⟩)
 have he:∃q,h'.get? a=some q:=let ⟨q,_,_,hq,_⟩:=dd';⟨q,hq⟩
 exact KH I (by rw[e];exact a7Q) hs he (R9 (zN (XQ kvs k) z) hd (rel.drop k) dd')
theorem A0B {v:V}{more:List Value}{Q:Value->Shared->Prop}(I:Inv X pins σ H s) (e:H a=some (.dK kvs)) (ry:RelV (kV k) u) (l:E9 kvs k=some v) (hm:more=[]∨∃x,more=[x])
   (h:∀w' s',Inv X pins σ (upd H a (.dK (MQ kvs k))) s'->RelV v w'->Q w' s'):wpAny (model X.prog X.w) A (call (.builtin "dict.pop") (.ref a::u::more)) Q E s:=by
 obtain⟨z,hd,vs,rel,dd⟩:=XR I.hok e
 obtain⟨w',hw,rw'⟩:=RelO.some_of (v:=v) (o:=valueAt vs k) (by rw[← l];exact rel.val k)
 have hp:(keyPart u).isSome=true:=by
   cases k with
   | inl i=>obtain⟨t,q⟩:=(show ∃t,u=b5V i t from ry);subst q;rfl
   | inr x=>obtain⟨t,q⟩:=(show ∃t,u=c1Q x t from ry);subst q;rfl
 have ha:argsOk "dict.pop" ⟨.ref a::u::more,[]⟩:=by
   rcases hm with q | ⟨x,q⟩
   · subst q;exact PySem.F.args_dict_pop_2 _ _
   · subst q;exact PySem.F.args_dict_pop_3 _ _ _
 refine call_meetsIn PySem.F.slot_dict_pop dd.typeIs PySem.F.entry_dict_pop ha (meets_dict_pop_there (AO X.prog X.w) a (JO ry) more hm hp)
   ⟨vs,w',dd,by rw[← rel.length];exact z,hw,fun h' dd' hs=>h w' _ ?_ rw'⟩
 have he:∃q,h'.get? a=some q:=let ⟨q,_,_,hq,_⟩:=dd';⟨q,hq⟩
 exact KH I (by rw[e];exact a7Q) hs he (R9 (zN (XQ kvs k) z) hd (rel.drop k) dd')
end
def A0C (i:Expr):Prop:=∀ov iv,subscripted i false ov iv=operate [ov,iv] (getItem ov iv)
theorem oY {prog:Program}{w:World}{A:Around}{E:Value->Shared->Prop}{s:Shared}{env:Env}{value slice:Expr}{pos:Pos}{T id:String}{Q:Value->Shared->Prop}
   (hl:typeLookup (.type T) "__getitem__"=pure (some (.builtin id))) (hs:A0C slice)
   (h:wpAny (model prog w) A (eval value env) (fun o s₁=>wpAny (model prog w) A (eval slice env) (fun i s₂=>s₂.TypeIs o T/\wpAny (model prog w) A (getItem o i) Q E s₂) E s₁) E s) :
   wpAny (model prog w) A (eval (.Subscript value slice pos) env) Q E s:=by
 refine Subscript_ (wpAny_mono h (fun o s₁ h₁=>wpAny_mono h₁ (fun i s₂ h₂=>?_) fun _ _ x=>x) fun _ _ x=>x)
 obtain⟨hT,h₂⟩:=h₂
 unfold subscriptTail
 refine zZ ?_
 rw[getitemInPython_of_ne hT.not_modules]
 refine zZ (wpAny_specialOf hT hl ?_)
 have fin:wpAny (model prog w) A (subscripted slice false o i) (fun r s₃=>wpAny (model prog w) A (letTemporaryGo value o r >>= fun _=>pure r) Q E s₃) E s₂:=by
   rw[hs o i]
   exact wpAny_operating (wpAny_mono h₂ (fun r s₃ h₃=>zZ (wpAny_letTemporaryGo (zY h₃))) fun _ _ x=>x)
 first
   | exact zY (zZ fin)
   | exact zZ (zY (zZ fin))
   | exact zZ fin
theorem XS {X:Cx}{pins:List (Addr×Obj)}{σ:St}{H:Hp}{s:Shared}{a:Addr}{y:V}{o:Option V}(I:Inv X pins σ H s) (g:TK H a y o):s.TypeIs (.ref a) "dict" := by
 rcases g with ⟨kvs,k,e,_,_⟩ | ⟨kvs,k,b,e,_,_,_⟩
 · obtain⟨_,_,vs,_,dd⟩:=JP I.hok e
   exact dd.typeIs
 · obtain⟨_,_,xs,_,dd⟩:=R8 I.hok e
   exact dd.typeIs
def jR (td ty:TE):TE:=fun σ H Q=>td σ H fun x H1=>ty σ H1 fun y H2=>∃a v,x = .ref a/\TK H2 a y (some v)/\Q v H2
def v7 (ty td:TE):TE:=fun σ H Q=>ty σ H fun y H1=>td σ H1 fun x H2=>∃a o,x = .ref a/\TK H2 a y o/\Q (.bl o.isSome) H2
def dB (ty td:TE):TE:=fun σ H Q=>ty σ H fun y H1=>td σ H1 fun x H2=>∃a o,x = .ref a/\TK H2 a y o/\Q (.bl (!o.isSome)) H2
def jS (td ty tv:TE):TS:=fun D σ H=>tv σ H fun v H1=>td σ H1 fun x H2=>ty σ H2 fun y H3=>∃a H4,x = .ref a/\zS H3 a y v H4/\D.nx σ H4
def t8 (td ty:TE):TS:=fun D σ H=>td σ H fun x H1=>ty σ H1 fun y H2=>∃a kvs k,x = .ref a/\H2 a=some (.dK kvs)/\y=kV k/\(E9 kvs k).isSome=true/\D.nx σ (upd H2 a (.dK (MQ kvs k)))
section
variable {X:Cx}{o i e value:Expr}{pos pos' tpos:Pos}{td ty tv:TE}
theorem GG (hu:X.A.units+1 < cLine) (ho:PE X o td) (hi:PE X i ty) (hs:A0C i):PE X (.Subscript o i pos) (jR td ty):=by
 intro pins s σ H Q I h
 refine oY PySem.F.slot_dict_getitem.lookup hs (thn (ho pins s σ H _ I h) fun u s1 ⟨x,H1,I1,rx,q1⟩=>thn (hi pins s1 σ H1 _ I1 q1) fun iv s2 ⟨y,H2,I2,ry,a,v,ex,g,q2⟩=>?_)
 subst ex
 obtain rfl:u=a0Z a:=rx
 exact⟨XS I2 g,g6 hu I2 g ry fun w' s3 I3 rw'=>⟨v,H2,I3,rw',q2⟩⟩
theorem aT (hu:X.A.units+1 < cLine) (hi:PE X i ty) (ho:PE X o td):PC X .In i o (v7 ty td):=by
 intro pins s σ H Q I h
 refine thn (hi pins s σ H _ I h) fun iv s1 ⟨y,H1,I1,ry,q1⟩=>thn (ho pins s1 σ H1 _ I1 q1) fun u s2 ⟨x,H2,I2,rx,a,ov,ex,g,q2⟩=>?_
 subst ex
 obtain rfl:u=a0Z a:=rx
 exact A0A hu I2 g ry fun s3 I3=>⟨.bl ov.isSome,H2,I3,rfl,q2⟩
theorem gB (hu:X.A.units+1 < cLine) (hi:PE X i ty) (ho:PE X o td):PC X .NotIn i o (dB ty td):=by
 intro pins s σ H Q I h
 refine thn (hi pins s σ H _ I h) fun iv s1 ⟨y,H1,I1,ry,q1⟩=>thn (ho pins s1 σ H1 _ I1 q1) fun u s2 ⟨x,H2,I2,rx,a,ov,ex,g,q2⟩=>?_
 subst ex
 obtain rfl:u=a0Z a:=rx
 exact oX hu I2 g ry fun s3 I3=>⟨.bl (!ov.isSome),H2,I3,rfl,q2⟩
theorem VO (hu:X.A.units+1 < cLine) (ho:PE X o td) (hi:PE X i ty) (hv:PE X value tv) (hs:swapsWith value (some (.Subscript o i pos')) pos.line X.env=pure false) :
   PS X (.Assign [.Subscript o i pos'] value pos) (jS td ty tv):=by
 intro pins s σ H D I h
 refine wpAny_Assign_Subscript (thn (hv pins s σ H _ I h) fun r s1 ⟨v,H1,I1,rv,q1⟩=>thn (ho pins s1 σ H1 _ I1 q1) fun u s2 ⟨x,H2,I2,rx,q2⟩=>thn (hi pins s2 σ H2 _ I2 q2) fun iv s3 ⟨y,H3,I3,ry,a,H4,ex,g,q3⟩=>?_) hs
 subst ex
 obtain rfl:u=a0Z a:=rx
 exact g9 hu I3 g ry rv fun s4 I4=>⟨σ,H4,I4,q3⟩
theorem oZ (ho:PE X o td) (hi:PE X i ty):PS X (.Delete [.Subscript o i tpos] pos) (t8 td ty):=by
 intro pins s σ H D I h
 refine wpAny_Delete (wpAny_deleteEach_cons (wpAny_delete_Subscript (thn (ho pins s σ H _ I h) fun u s1 ⟨x,H1,I1,rx,q1⟩=>thn (hi pins s1 σ H1 _ I1 q1) fun iv s2 ⟨y,H2,I2,ry,a,kvs,k,ex,e,ey,l,q2⟩=>?_)))
 subst ex ey
 obtain rfl:u=a0Z a:=rx
 exact gA I2 e ry l fun s3 I3=>wpAny_deleteEach_nil ⟨σ,_,I3,q2⟩
end
theorem XT {P:Program}{w:World}{H:Hp}(h:Heap) (hb:sysModules < h.objs.size):ObjOk P w H (h.push { cls:=.type "dict", data:=.dict #[] }) h.objs.size (.dK []):=
 ⟨xT _,beq_eq_false_iff_ne.mpr (b4Z (zC hb)),[],.nil,Heap.DictOf.new h⟩
def VP:List (TE×TE)->St->Hp->(List (V×V)->Hp->Prop)->Prop
 | [],_,H,Q=>Q [] H
 | (tk,tv)::r,σ,H,Q=>tk σ H fun x H1=>tv σ H1 fun y H2=>VP r σ H2 fun ps H3=>Q ((x,y)::ps) H3
abbrev VV:List (V×V)->List (Value×Value)->Prop:=Paired fun p q=>RelV p.1 q.1/\RelV p.2 q.2
def PPs (X:Cx) (pos:Pos) (keys:List (Option Expr)) (values:List Expr) (trs:List (TE×TE)):Prop:=
 ∀(pins:List (Addr×Obj)) (s:Shared) (σ:St) (H:Hp) (Q:List (V×V)->Hp->Prop),Inv X pins σ H s->VP trs σ H Q ->
   wpAny (model X.prog X.w) X.A (evalPairs (pairTrees keys values X.env pos)) (fun vs s'=>∃ps H',Inv X pins σ H' s'/\VV ps vs/\Q ps H') X.xe s
theorem QM {X:Cx}{pos:Pos}:PPs X pos [] [] []:=fun pins s σ H Q I h=>pairTrees_nil_walk ⟨[],H,I,.nil,h⟩
theorem D3 {X:Cx}{pos:Pos}{k v:Expr}{ks:List (Option Expr)}{vs:List Expr}{tk tv:TE}{trs:List (TE×TE)}(hk:PE X k tk) (hv:PE X v tv) (hr:PPs X pos ks vs trs) :
   PPs X pos (some k::ks) (v::vs) ((tk,tv)::trs):=fun pins s σ H Q I h=>
 pairTrees_cons_walk (thn (hk pins s σ H _ I h) fun u s1 ⟨x,H1,I1,rx,q1⟩=>thn (hv pins s1 σ H1 _ I1 q1) fun w2 s2 ⟨y,H2,I2,ry,q2⟩=>
   thn (hr pins s2 σ H2 _ I2 q2) fun ws s3 ⟨ps,H3,I3,rel,q3⟩=>⟨(x,y)::ps,H3,I3,.cons ⟨rx,ry⟩ rel,q3⟩)
def JQ (kvs more:List (Key×V)):List (Key×V):=more.foldl (fun acc kv=>EX acc kv.1 kv.2) kvs
theorem KV.merge:∀{more:List (Key×V)}{rs:List (Key×Value)}{kvs:List (Key×V)}{vs:List (Key×Value)},KV more rs->KV kvs vs->KV (JQ kvs more) (merged vs rs):=by
 intro more rs kvs vs r
 unfold KV at r
 induction r generalizing kvs vs with
 | nil=>intro q;exact q
 | @cons p q ps qs h t ih=>
   intro r0
   have e:KV (EX kvs p.1 p.2) (stored vs q.1 q.2):=by
     have:=r0.put p.1 h.2
     rw[← h.1];exact this
   exact ih e
theorem L5:∀(more kvs:List (Key×V)),(JQ kvs more).length<=kvs.length+more.length
 | [],kvs=>by show kvs.length<=kvs.length+0;omega
 | p::r,kvs=>by
   have h1:=L5 r (EX kvs p.1 p.2)
   have h2:=GF kvs p.1 p.2
   show(JQ (EX kvs p.1 p.2) r).length<=_
   rw[yR];omega
theorem RA {P:Program}{w:World}:∀{kvs:List (Key×V)}{ws:List (Value×Value)},VV (kvs.map fun kv=>(kV kv.1,kv.2)) ws->∃rs,Carries (AO P w) ws rs/\KV kvs rs
 | [],_,r=>by rw[a4J] at r;cases r;exact⟨[],a7Q,.nil⟩
 | p::kvs,_,r=>by
   rw[zI] at r
   cases r with
   | @cons a b as bs h t=>
     obtain⟨rs,c,q⟩:=RA (P:=P) (w:=w) t
     obtain⟨b1,b2⟩:=b
     exact⟨(p.1,b2)::rs,⟨JO h.1,rfl,c⟩,.cons ⟨rfl,h.2⟩ q⟩
def t9 (trs:List (TE×TE)):TE:=fun σ H Q=>∀p,H p=none->VP trs σ (upd H p (.dK [])) fun ps H2=>H2 p=some (.dK [])/\∃kvs:List (Key×V),ps=kvs.map (fun kv=>(kV kv.1,kv.2))/\kvs.length<=15/\Q (.ref p) (upd H2 p (.dK (JQ [] kvs)))
theorem QN {X:Cx}{pos:Pos}{keys:List (Option Expr)}{values:List Expr}{trs:List (TE×TE)}(h:PPs X pos keys values trs) (hall:keys.all (·.isSome)=true) (hl:keys.length=values.length) (h0:keys≠[])
   (h15:keys.length<=15):PE X (.Dict keys values pos) (t9 trs):=by
 intro pins s σ H Q I q
 have hn:=I.hok.fresh (zR s.heap.objs.size)
 have I1:=I.laid (a:=s.heap.objs.size) (o:=.dK []) (h':=s.heap.push { cls:=.type "dict", data:=.dict #[] }) (t':=s.toks) (fun _ _ q=>zW _ q) (zR _) (XT s.heap I.big)
 refine wpAny_Dict_walk (knd:=AO X.prog X.w) hall hl h0 h15 (thn (h pins _ σ _ _ I1 (q _ hn)) fun ws s2 ⟨ps,H2,I2,rel,e,kvs,ep,lk,q2⟩=>?_)
 subst ep
 obtain⟨rs,c,rk⟩:=RA (P:=X.prog) (w:=X.w) rel
 obtain⟨z,hd,vs0,r0,dd⟩:=XR I2.hok e
 cases r0
 refine⟨rs,c,dd,fun h' dd' hs=>⟨.ref s.heap.objs.size,_,?_,rfl,q2⟩⟩
 have hz:(JQ [] kvs).length<=sizeLine:=by
   have h1:=L5 kvs []
   rw[b2W] at h1
   rw[sizeLine_eq];omega
 have he:∃q,h'.get? s.heap.objs.size=some q:=let ⟨q,_,_,hq,_⟩:=dd';⟨q,hq⟩
 exact KH I2 (by rw[e];exact a7Q) hs he (R9 hz hd (rk.merge .nil) dd')
structure M1 (X:Cx) (o:Expr) (m:Str) (apos:Pos) (e:Expr) (cpos:Pos):Prop where
 base:attributeBase o m X.env (eval o X.env)=eval o X.env
 few:((backTo cpos (starEach [e] X.env)).all (fun x=>!x.1)&&(backToKw cpos (keywordEach [] X.env)).all (fun x=>x.1.isSome)
   && decide (([e]:List Expr).length+([]:List Keyword).length+(if ([]:List Keyword).isEmpty then 0 else 1) < 30))=true
 line:(apos.endLine==cpos.line)=true
 trees:backTo cpos (starEach [e] X.env)=[(false,eval e X.env)]
structure M2 (X:Cx) (o:Expr) (m:Str) (apos:Pos) (e f:Expr) (cpos:Pos):Prop where
 base:attributeBase o m X.env (eval o X.env)=eval o X.env
 few:((backTo cpos (starEach [e,f] X.env)).all (fun x=>!x.1)&&(backToKw cpos (keywordEach [] X.env)).all (fun x=>x.1.isSome)
   && decide (([e,f]:List Expr).length+([]:List Keyword).length+(if ([]:List Keyword).isEmpty then 0 else 1) < 30))=true
 line:(apos.endLine==cpos.line)=true
 trees:backTo cpos (starEach [e,f] X.env)=[(false,eval e X.env),(false,eval f X.env)]
def IsD (H:Hp) (a:Addr):Prop:=(∃kvs,Rd H a (.dK kvs))∨∃kvs,Rd H a (.dT kvs)
theorem jT {X:Cx}{pins:List (Addr×Obj)}{σ:St}{H:Hp}{s:Shared}{a:Addr}(I:Inv X pins σ H s) (d:IsD H a) :
   s.TypeIs (.ref a) "dict" /\ (∀b,a0Z a = .ref b->∃ob,s.heap.get? b=some ob/\ob.dict=none)/\(a==sysModules)=false:=by
 rcases d with ⟨kvs,e⟩ | ⟨kvs,e⟩
 · obtain⟨_,hd,vs,_,dd⟩:=JP I.hok e
   refine⟨dd.typeIs,fun b q=>?_,hd⟩
   cases q
   obtain⟨ob,_,_,h1,h2,_⟩:=dd
   exact⟨ob,h1,h2.2.1⟩
 · obtain⟨_,hd,xs,_,dd⟩:=R8 I.hok e
   refine⟨dd.typeIs,fun b q=>?_,hd⟩
   cases q
   obtain⟨ob,_,_,h1,h2,_⟩:=dd
   exact⟨ob,h1,h2.2.1⟩
section
variable {X:Cx}{pins:List (Addr×Obj)}{σ:St}{H:Hp}{s:Shared}{a:Addr}{y d:V}{u r:Value}{o:Option V}{A:Around}{E:Value->Shared->Prop}
theorem v8 {Q:Value->Shared->Prop}(hu:A.units+1 < cLine) (I:Inv X pins σ H s) (g:TK H a y o) (ry:RelV y u) (rd:RelV d r) (h:∀w' s',Inv X pins σ H s'->RelV (o.getD d) w'->Q w' s') :
   wpAny (model X.prog X.w) A (call (.builtin "dict.get") [.ref a,u,r]) Q E s:=by
 rcases g with ⟨kvs,k,e,ey,l⟩ | ⟨kvs,k,b,e,ey,eb,l⟩
 · subst ey
   obtain⟨z,hd,vs,rel,dd⟩:=JP I.hok e
   refine call_meetsIn a9V dd.typeIs c0J (PySem.F.args_dict_get_3 _ _ _) (meets_dict_get_default (AO X.prog X.w) a (JO ry) hd r) ⟨_,dd.mapOf,h _ _ (I.tok _) ?_⟩
   rw[l]
   exact(rel.val k).getD rd
 · subst ey
   cases (show u=a0Z b from ry)
   obtain⟨z,hd,xs,rel,dd⟩:=R8 I.hok e
   refine call_meetsIn a9V dd.typeIs c0J (PySem.F.args_dict_get_3 _ _ _) (meetsH_dict_get_default (tupleKind (AO X.prog X.w)) a b hd r) ⟨tupleKind_room_in1 hu,k,xs,OC I.hok eb,dd,h _ _ (I.tok _) ?_⟩
   rw[l]
   exact(rel.val k).getD rd
end
def jU (td ty tx:TE):TE:=fun σ H Q=>td σ H fun x H1=>∃a,x = .ref a/\IsD H1 a/\ty σ H1 fun y H2=>tx σ H2 fun z H3=>∃o,TK H3 a y o/\Q (o.getD z) H3
def jV (td ty:TE):TE:=fun σ H Q=>td σ H fun x H1=>∃a,x = .ref a/\IsD H1 a/\ty σ H1 fun y H2=>∃kvs k v,H2 a=some (.dK kvs)/\y=kV k/\E9 kvs k=some v/\Q v (upd H2 a (.dK (MQ kvs k)))
section
variable {X:Cx}{o e f:Expr}{apos cpos:Pos}{td ty tx:TE}
theorem MR (hu:X.A.units+1 < cLine) (ho:PE X o td) (he:PE X e ty) (hf:PE X f tx) (m:M2 X o "get" apos e f cpos):PE X (.Call (.Attribute o "get" apos) [e,f] [] cpos) (jU td ty tx):=by
 intro pins s σ H Q I h
 refine wpAny_Call_method m.base m.few m.line b8V a9V PySem.F.type_dict_get (thn (ho pins s σ H _ I h) fun u s1 ⟨x,H1,I1,rx,a,ex,d,q1⟩=>?_)
 subst ex
 obtain rfl:u=a0Z a:=rx
 obtain⟨t1,t2,_⟩:=jT I1 d
 refine⟨t1,t2,?_⟩
 rw[m.trees]
 refine b3K rfl (b4W (xP (thn (he pins s1 σ H1 _ I1 q1) fun iv s2 ⟨y,H2,I2,ry,q2⟩=>
   xP (thn (hf pins s2 σ H2 _ I2 q2) fun fv s3 ⟨z,H3,I3,rz,ov,g,q3⟩=>b9X ?_))))
 exact v8 hu I3 g ry rz fun w' s4 I4 rw'=>⟨_,H3,I4,rw',q3⟩
theorem jW (ho:PE X o td) (he:PE X e ty) (m:M1 X o "pop" apos e cpos):PE X (.Call (.Attribute o "pop" apos) [e] [] cpos) (jV td ty):=by
 intro pins s σ H Q I h
 refine wpAny_Call_method m.base m.few m.line b8V PySem.F.slot_dict_pop PySem.F.type_dict_pop (thn (ho pins s σ H _ I h) fun u s1 ⟨x,H1,I1,rx,a,ex,d,q1⟩=>?_)
 subst ex
 obtain rfl:u=a0Z a:=rx
 obtain⟨t1,t2,_⟩:=jT I1 d
 refine⟨t1,t2,?_⟩
 rw[m.trees]
 refine b3K rfl (b4W (xP (thn (he pins s1 σ H1 _ I1 q1) fun iv s2 ⟨y,H2,I2,ry,kvs,k,v,ea,ey,l,q2⟩=>b9X ?_)))
 subst ey
 exact A0B I2 ea ry l (.inl rfl) fun w' s3 I3 rw'=>⟨v,_,I3,rw',q2⟩
end
end L2
namespace Att
open PySem PySem.W PySem.Calls PyProof.Rows
theorem Q4 {P:Params}{h:Heap}:∀(ns:List Int) (vs:List Value),WellAll P h vs (ns.map WData.int)->IntsAre vs ns:=by
 intro ns
 induction ns with
 | nil=>
   intro vs w
   rw[a4J] at w
   cases w
   exact .nil
 | cons n ns ih=>
   intro vs w
   rw[zI] at w
   cases w with
   | cons a b=>
     cases a
     exact .cons _ _ (ih _ b)
theorem script_of {l:OpenLaw}{n:Nat}(hn:l.most=some n) {P:Params}{h:Heap}{args:List WData}{vals:List Value}
   (hpre:l.row.toRowW.claim.pre args=true) (hwl:WellAll P h vals args) :
   ∃a vs ns,vals=[a0Z a]/\args=[WData.list (ns.map WData.int)]/\h.get? a=some { cls:=.type "list", data:=.seq vs.toArray }/\IntsAre vs ns/\ns.length<=n:=by
 have hsh:WShape.hasAll [] args [.list .int]=true:=(pre_splitW hpre).1
 have hc:l.pre.holds [] { args:=args }=true:=(pre_splitW hpre).2
 obtain⟨d,r,rfl,h1,h2⟩:=hasAllW_cons hsh
 obtain rfl:=hasAllW_nil h2
 obtain⟨xs,rfl,h3⟩:=hasW_list h1
 obtain⟨ns,rfl⟩:=items_int h3
 have hlen:ns.length<=n:=by
   unfold OpenLaw.pre at hc
   have h4:(WTm.not (.lt (.lit (.int (n:Int))) (.len (.arg 0)))).holds [] { args:=[.list (ns.map .int)] }=true:=by
     have h4:=(holds_andW hc).1
     rw[hn] at h4
     exact h4
   have h5:=condW_of h4 (w_not (w_lt w_lit (w_len_list (w_arg rfl))))
   rw[zX] at h5
   refine Nat.le_of_not_lt fun q=>?_
   have q':(n:Int) < ((ns.length:Nat):Int):=by omega
   first
     | (rw[decide_eq_true q'] at h5;exact absurd h5 (by decide))
     | (simp at h5;omega)
 cases hwl with
 | cons w1 w2=>
   cases w2
   cases w1 with
   | list ho hall=>exact⟨_,_,ns,rfl,rfl,ho,Q4 ns _ hall,hlen⟩
theorem post_true (l:OpenLaw) (args:List WData):l.row.toRowW.claim.post args (.bool true) args=true:=
 postW_of (r:=l.row.toRowW) (X:=(true==true))
   (show WShape.has [] (.bool true) .bool=true by first | rfl | decide | simp[WShape.has,WShape.arms,WShape.armsAll])
   (show(WTm.eq .res (.lit (.bool true))).value [] { args:=args,res:=some (.bool true),after:=args }=some (.bool (true==true)) from w_eq_bool (w_res rfl) w_lit) rfl
end Att
namespace L2
open PySem PySem.Spec PyProof.Rows
theorem UH:∀{vs:List Value}{ns:List Int},IntsAre vs ns->Vals (ns.map V.int) vs
 | _,_,.nil=>.nil
 | _,_,.cons n t h=>.cons ⟨t,rfl⟩ (UH h)
def v9 (H:Hp):Prop:=∀b,H b=none∨∃o xs,H b=some (.frz o (.lst xs))
theorem jX {P:Program}{w:World}{K:Frg}{mg mb:Str->Option Value}{CX:CXT}{k:Nat}{fa a:Addr}{fd:FuncData}{x:Str}{sp:Sp}{s₁:Shared}{vs:List Value}{ns:List Int}
   (KX:K.In s₁.heap) (hns:s₁.heap.Ns mainGlobals mg) (hb:s₁.heap.Ns builtinsNs mb) (hbb:∀x:Str,x ≠ "__name__" -> mb x=bootBuiltins x) (hlim:s₁.heap.NoLimit) (hg:s₁.gens=#[])
   (ha:s₁.heap.get? a=some { cls:=.type "list", data:=.seq vs.toArray }) (hi:IntsAre vs ns) (hl:ns.length<=sizeLine) (hr:Room k callerA)
   (F:∀base:Heap,K.In base->base.Ns mainGlobals mg->FnOk P w K mg base CX k fa fd [x] sp) (hbind:∀(s:Shared) (u:Value),BindsTo s fd ⟨[u],[]⟩ [(x,u)])
   (hsp:∀H:Hp,v9 H->SqL K H a (ns.map V.int)->sp [.ref a] H (fun v _=>v = .bl true) fun _ _ _=>False)
   (hCX:∀H e s',CX [] H s₁ (fun _ _ _=>False) e s'->False) :
   codeAny (model P w) callerA (.call (.ref fa) ⟨[.ref a],[]⟩) (fun r s'=>r = .ok (.ret (.bool true))/\OldK s₁.heap s'.heap/\s'.os=s₁.os/\AllBare s'.gens) s₁:=by
 have rv:=UH hi
 have lenV:=hi.length
 have core:∀H:Hp,v9 H->SqL K H a (ns.map V.int)->HOk P w H s₁.heap->(∀b,H b≠none->b=a)->(H a≠none->K.lookup a=none) ->
     codeAny (model P w) callerA (.call (.ref fa) ⟨[.ref a],[]⟩) (fun r s'=>r = .ok (.ret (.bool true))/\OldK s₁.heap s'.heap/\s'.os=s₁.os/\AllBare s'.gens) s₁:=by
   intro H hO hS hok hA hK
   have base_of:∀{b:Addr}{o:Obj},s₁.heap.get? b=some o->H b=none->(VF s₁.heap H).get? b=some o:=fun e n=>jA e n
   have noA:∀{b:Addr}{o:Obj}{es:Array DictEntry}{ep:Nat},s₁.heap.get? b=some o->o.data = .dict es ep->H b=none:=fun {b o es ep} e d=>by
     cases q:H b with
     | none=>rfl
     | some u=>
       have e':b=a:=hA b (by rw[q];simp)
       subst e'
       rw[ha] at e;cases e
       have d':Data.seq vs.toArray _=Data.dict es ep:=d
       cases d'
   have nsK:∀{b:Addr}{m:Str->Option Value},s₁.heap.Ns b m->(VF s₁.heap H).Ns b m:=fun {b m} ⟨o,es,ep,e,d,r⟩=>⟨o,es,ep,base_of e (noA e d),d,r⟩
   have hKb:K.In (VF s₁.heap H):=fun b o e=>base_of (KX b o e) (by
     cases q:H b with
     | none=>rfl
     | some u=>
       have e':b=a:=hA b (by rw[q];simp)
       subst e'
       rw[hK (by rw[q];simp)] at e;cases e)
   have hM:Mod K mg (VF s₁.heap H):=⟨hKb,nsK hns,⟨mb,nsK hb,hbb⟩,let ⟨mc,h1,h2⟩:=hlim;⟨mc,nsK h1,h2⟩⟩
   have e0:Env0 P w K mg (VF s₁.heap H) callerA [] s₁ H:=⟨rfl,hM,fun b o e=>oF e,Nat.le_of_eq (fN _ _),trivial,fun b hb=>absurd (show b∈([]:List Addr) from hb) (by simp),hok,.of_eq hg⟩
   refine codeAny_mono ((F _ hKb (nsK hns)).run callerA [] s₁ H ⟨[.ref a],[]⟩ [.ref a] [.ref a] _ _ hr e0 (hbind s₁ (.ref a)) (.cons rfl .nil) (hsp H hO hS)) fun r s' h=>?_
   cases r with
   | error e=>exact(hCX H e s' h).elim
   | ok fl=>
     cases fl with
     | next=>exact b2Z h
     | brk=>exact b2Z h
     | cont=>exact b2Z h
     | ret u=>
       obtain⟨v,H',os,bare,un,hok',r',q⟩:=h
       have q':v = .bl true:=q
       subst q'
       obtain rfl:u=Value.bool true:=r'
       refine⟨rfl,OldK.of_keep fun b o e=>?_,os,bare⟩
       cases q:H b with
       | none=>exact un.keep b o e q (by intro z;exact absurd (show b∈([]:List Addr) from z) (by simp)) (by simp)
       | some u=>
         rcases hO b with z | ⟨ob,xs,z⟩
         · rw[q] at z;cases z
         · have z2:=un.frzs b ob _ z
           obtain⟨e1,_⟩:=hok b _ z
           obtain⟨e2,_⟩:=hok' b _ z2
           rw[e] at e1;cases e1
           exact e2
 cases hk:K.lookup a with
 | some o=>
   have e:=KX a o hk
   rw[ha] at e
   cases e
   refine core (fun _=>none) (fun _=>.inl rfl) (.inr ⟨_,vs.toArray,_,hk,rfl,rfl,rfl,by rw[zJ,lenV];exact hl,by simpa using rv⟩) (fun b u z=>by have z':(none:Option HO)=some u:=z;cases z') (fun b z=>absurd rfl z) fun z=>absurd rfl z
 | none=>
   refine core (fun b=>if b=a then some (.frz { cls:=.type "list", data:=.seq vs.toArray } (.lst (ns.map V.int))) else none) (fun b=>?_) (.inl (.inr ⟨{ cls:=.type "list", data:=.seq vs.toArray },if_pos rfl⟩)) (fun b u z=>?_) (fun b z=>?_) fun _=>hk
   · by_cases hb:b=a
     · exact .inr ⟨_,_,if_pos hb⟩
     · exact .inl (if_neg hb)
   · by_cases hb:b=a
     · have z':=(if_pos hb).symm.trans z
       cases z'
       subst hb
       exact⟨ha,by rw[zX];exact hl,vs,_,rv,ha⟩
     · have z':=(if_neg hb).symm.trans z
       cases z'
   · by_cases hb:b=a
     · exact hb
     · exact absurd (if_neg hb) z
def FD (s:Stmt):Arguments:=match s with
 | .FunctionDef _ a _ _ _ _ _ _ _ _=>a
 | _=>{ posonlyargs:=[],args:=[],vararg:=none,kwonlyargs:=[],kw_defaults:=[],kwarg:=none,defaults:=[] }
def DH (s:Stmt):List Stmt:=match s with
 | .FunctionDef _ _ b _ _ _ _ _ _ _=>b
 | _=>[]
def AB (s:Stmt):Scope:=match s with
 | .FunctionDef _ _ _ _ _ _ sc _ _ _=>sc
 | _=>{ kind:=.function,names:=[],isGenerator:=false,isCoroutine:=false }
abbrev CX0:CXT:=fun _ _ _ _ _ _=>False
abbrev E0:XK:=fun _ _ _=>False
theorem A0D {X:Cx}:aO CX0 X E0:=fun _ _ _ _ _ _ _ h=>h.elim
structure Fun (K:Frg) (x qual:Str) (st:Stmt) (f:Addr) (fd:FuncData):Prop where
 ex:∃(oc:Value) (od:Option Addr) (kV doc pm:Value) (an:Option Addr) (cdv ct:Value) (osl:Array (Option Value)),
   fd=a8W x qual (FD st) (DH st) (AB st) .none kV doc pm an cdv ct/\K.lookup f=some ⟨oc,od,.func fd,osl⟩/\b6W K cdv qual=true
 kp:b0W K (.ref f)=true
section
variable {P:Program}{w:World}{K:Frg}{mg:Str->Option Value}{base:Heap}
theorem Fun.ok {x qual:Str}{st:Stmt}{f:Addr}{fd:FuncData}{N ps:List Str}{k:Nat}{sp:Sp}(F:Fun K x qual st f fd) (S:FnScope N ps (AB st)) (len:∀vs H Q E,sp vs H Q E->vs.length=ps.length)
   (hbody:∀(cdv:Value) (A:Around) (outer:List Env) (s:Shared) (H:Hp) (vs:List V) (Q:VK) (E:XK),Room k (A.deeper (envOfC qual (AB st) s.heap.objs.size f cdv))->sp vs H Q E ->
     ∃t,PSs (aP CX0 P w K mg base N qual (AB st) f cdv A outer s H E).nox (DH st) t/\t { nx:=fun _ H'=>Q .non H',rt:=Q } (IY N vs) H):FnOk P w K mg base CX0 (k+1) f fd ps sp:=by
 obtain⟨oc,od,kV,doc,pm,an,cdv,ct,osl,rfl,lk,hcd⟩:=F.ex
 refine z9 lk hcd S len fun A outer s H vs Q E hr hsp=>?_
 obtain⟨t,h,q⟩:=hbody cdv A outer s H vs Q E hr hsp
 exact⟨t,h.nox,q⟩
theorem Fun.binds {x qual:Str}{st:Stmt}{f:Addr}{fd:FuncData}{ps:List Str}(F:Fun K x qual st f fd)
   (h:∀(kV doc pm:Value) (an:Option Addr) (cdv ct:Value) (us:List Value),us.length=ps.length->bindArgs (a8W x qual (FD st) (DH st) (AB st) .none kV doc pm an cdv ct) ⟨us,[]⟩=pure (ps.zip us)):Binds K fd ps []:=by
 obtain⟨oc,od,kV,doc,pm,an,cdv,ct,osl,rfl,lk,hcd⟩:=F.ex
 exact .all (h kV doc pm an cdv ct)
theorem vA {x qual:Str}{st:Stmt}{f:Addr}{oc:Value}{od an:Option Addr}{osl:Array (Option Value)}{kV doc pm cdv ct:Value}(l:K.lookup f=some ⟨oc,od,.func (a8W x qual (FD st) (DH st) (AB st) .none kV doc pm an cdv ct),osl⟩)
   (c:b6W K cdv qual=true) (k:b0W K (.ref f)=true):Fun K x qual st f (a8W x qual (FD st) (DH st) (AB st) .none kV doc pm an cdv ct):=⟨⟨oc,od,kV,doc,pm,an,cdv,ct,osl,rfl,l,c⟩,k⟩
end
section
variable {X:Cx}
theorem pv (i:Nat) {x:Str}{pos:Pos}(hN:X.N[i]?=some x:=by rfl) (hv:Vis X.env.scope x:=by first | exact Or.inl rfl | exact Or.inr (Or.inl rfl) | exact Or.inr (Or.inr rfl)) (hd:(x==("__debug__":Str))=false:=by decide)
   (hcd:(x==("__classdict__":Str))=false:=by decide):PE X (.Name x pos) (oG i):=jB hN hv hd hcd
end
theorem p6 {A B:Prop}(h:B):if false=true then A else B:=by
 rw[if_neg nft]
 exact h
theorem p7 {A B:Prop}(h:A):if true=true then A else B:=by
 rw[if_pos rfl]
 exact h
theorem jY {c A B:Prop}[Decidable c] (h1:c->A) (h2:¬c->B):if c then A else B:=by
 by_cases h:c
 · rw[if_pos h]
   exact h1 h
 · rw[if_neg h]
   exact h2 h
end L2
namespace L2
open PySem PySem.Spec PyProof.Rows
def LV (cells:List (Str×Addr)):List (Str×NameKind)->List (Str×Addr)->List (Str×Addr)
 | [],cs=>cs
 | (n,k)::r,cs=>LV cells r (if k==.free then (match cells.lookup n with | some c=>(n,c)::cs | none=>cs) else cs)
theorem VQ (env:Env):∀(names:List (Str×NameKind)) (cs:List (Str×Addr)),(∀y∈names,y.2 = .free->∃c,env.cells.lookup y.1=some c) ->
   (forIn (m:=Sem) names cs fun x r=>do
     let (name,kind):=x
     if (kind==.free)=true then do let c ← cellOf env name;pure (b1V ((name,c)::r)) else pure (b1V r))=pure (LV env.cells names cs)
 | [],cs,_=>rfl
 | (n,k)::r,cs,h=>by
   have hr:∀y∈r,y.2 = .free->∃c,env.cells.lookup y.1=some c:=fun y hy=>h y (yV _ hy)
   rw[List.forIn_cons]
   by_cases hk:(k==a6W)=true
   · obtain⟨c,hc⟩:=h (n,k) a1W (by simpa using hk)
     have hc':env.cells.lookup n=some c:=hc
     simp only[hk,if_true,cellOf,hc',LV]
     exact VQ env r _ hr
   · simp only[hk,if_false,LV]
     exact VQ env r _ hr
theorem dC {scope:Scope}{env:Env}(h:∀y∈scope.names,y.2 = .free->∃c,env.cells.lookup y.1=some c):closureFor scope env=pure (LV env.cells scope.names []):=by
 have e:=VQ env scope.names [] h
 have e2:closureFor scope env=((forIn (m:=Sem) scope.names ([]:List (Str×Addr)) fun x r=>do
     let (name,kind):=x
     if (kind==.free)=true then do let c ← cellOf env name;pure (b1V ((name,c)::r)) else pure (b1V r)) >>= fun r=>pure r):=rfl
 rw[e2,e]
 rfl
theorem XU {cells:List (Str×Addr)}:∀{names:List (Str×NameKind)}{cs:List (Str×Addr)},(∀p∈cs,cells.lookup p.1=some p.2)->∀p∈LV cells names cs,cells.lookup p.1=some p.2
 | [],_,h=>h
 | (n,k)::r,cs,h=>by
   refine XU (names:=r) ?_
   split
   · cases e:cells.lookup n with
     | none=>exact h
     | some c=>
       intro p hp
       rcases yX.mp hp with rfl | hp
       · exact e
       · exact h p hp
   · exact h
theorem UI {cells:List (Str×Addr)}:∀{names:List (Str×NameKind)}{cs:List (Str×Addr)}{p:Str×Addr},p∈cs->p∈LV cells names cs
 | [],_,_,h=>h
 | (n,k)::r,cs,p,h=>by
   refine UI (names:=r) ?_
   split
   · cases e:cells.lookup n with
     | none=>exact h
     | some c=>exact yV _ h
   · exact h
theorem XV {cells:List (Str×Addr)}{x:Str}{c:Addr}(hc:cells.lookup x=some c):∀{names:List (Str×NameKind)}{cs:List (Str×Addr)},(x,a6W)∈names->(x,c)∈LV cells names cs
 | [],_,h=>absurd h (by simp)
 | (n,k)::r,cs,h=>by
   rcases yX.mp h with e | h
   · cases e
     refine UI (names:=r) ?_
     simp[hc]
   · exact XV hc (names:=r) h
theorem RB {α:Type}:∀{l:List (Str×α)}{x:Str}{c:α},(x,c)∈l->∃c',l.lookup x=some c'
 | [],_,_,h=>absurd h (by simp)
 | (n,k)::r,x,c,h=>by
   rw[a2J]
   cases e:x==n with
   | true=>exact⟨k,rfl⟩
   | false=>
     rcases yX.mp h with e' | h
     · cases e';simp at e
     · exact RB h
theorem BZ {cells:List (Str×Addr)}{names:List (Str×NameKind)}{x:Str}{c:Addr}(h:(LV cells names []).lookup x=some c):cells.lookup x=some c:=
 XU (names:=names) (cs:=[]) (by simp) (x,c) (a4V h)
structure CSc (X:Cx) (scope:Scope) (NC:List Str) (fr:List (Option Nat)):Prop where
 kind:scope.kind = .function
 nocell:∀y∈scope.names,y.2≠.cell
 names:∀y∈scope.names,y.2 = .local->scope.names.lookup y.1=some .local
 free:∀y∈scope.names,y.2 = .free->X.env.kindOf y.1=some .cell∨X.env.kindOf y.1=some .free
 len:fr.length=NC.length
 slot:∀(i j:Nat) (x:Str),NC[i]?=some x->fr[i]?=some (some j)->X.N[j]?=some x/\scope.names.lookup x=some .free/\Vis X.env.scope x/\X.env.kindOf x≠some .local
def capt (fr:List (Option Nat)) (σ:St):St:=fr.map fun o=>o.bind fun j=>(σ[j]?).join
def BM (X:Cx) (scope:Scope) (NC:List Str) (C:Addr) (s:Shared) (H:Hp) (ex:List Addr) (pn:List (Addr×Obj)):Cx where
 prog:=X.prog
 w:=X.w
 K:=X.K
 mg:=X.mg
 base:=X.base
 A:=X.A
 N:=NC
 s₀:=s
 H₀:=H
 env:=compEnvC scope (LV X.env.cells scope.names []) C X.env
 outer:=X.stack
 stack:=X.stack
 ex:=ex
 fn:=fun _=>false
 calm:=X.calm
 pn:=pn
 xe:=fun _ _=>False
theorem L6 {scope:Scope}{env:Env}{x:Str}:∀{names:List (Str×NameKind)},
   ((names.map fun(n,k)=>if (k==a6W&&env.scope.kind==.function&&env.kindOf n==some .cell) then (n,NameKind.cell) else (n,k)).lookup x=some .cell ∨
    (names.map fun(n,k)=>if (k==a6W&&env.scope.kind==.function&&env.kindOf n==some .cell) then (n,NameKind.cell) else (n,k)).lookup x=some .free) ->
   (∀y∈names,y.2≠.cell)->(x,a6W)∈names
 | [],h,_=>by simp at h
 | (n,k)::r,h,hn=>by
   have ih:=@L6 scope env x r
   have hn':∀y∈r,y.2≠.cell:=fun y hy=>hn y (yV _ hy)
   have hk:=hn (n,k) a1W
   simp only[zI] at h
   by_cases hc:(k==a6W&&env.scope.kind==.function&&env.kindOf n==some .cell)=true
   · simp only[hc,if_true,a2J] at h
     cases hx:x==n with
     | true=>
       have e:x=n:=by simpa using hx
       have e2:k = .free:=by simp at hc;exact hc.1.1
       subst e e2
       exact a1W
     | false=>
       simp only[hx] at h
       exact yV _ (ih h hn')
   · simp only[hc,a2J] at h
     cases hx:x==n with
     | true=>
       have e:x=n:=by simpa using hx
       subst e
       simp[a2J] at h
       rcases h with h | h
       · exact absurd h hk
       · subst h;exact a1W
     | false=>
       simp[a2J,hx] at h
       exact yV _ (ih (by simpa using h) hn')
section
variable {X:Cx}{scope:Scope}{NC:List Str}{fr:List (Option Nat)}{pins:List (Addr×Obj)}{σ:St}{H:Hp}{s:Shared}
theorem CSc.has (S:CSc X scope NC fr) (ok:X.Ok):∀y∈scope.names,y.2 = .free->∃c,X.env.cells.lookup y.1=some c:=fun y hy hf=>ok.has y.1 (S.free y hy hf)
theorem CSc.cells (S:CSc X scope NC fr) (ok:X.Ok) {x:Str}(h:(x,a6W)∈scope.names):∃c,(LV X.env.cells scope.names []).lookup x=some c/\X.env.cells.lookup x=some c:=by
 obtain⟨c,hc⟩:=S.has ok _ h rfl
 have hc':X.env.cells.lookup x=some c:=hc
 obtain⟨c',h'⟩:=RB (XV hc' h (cs:=[]))
 have:=BZ h'
 rw[hc'] at this;cases this
 exact⟨_,h',hc'⟩
theorem VR {env:Env}{x:Str}{scope:Scope}(hn:∀y∈scope.names,y.2 = .local->scope.names.lookup y.1=some .local) (h:(x,a6W)∈scope.names) (hl:scope.names.lookup x≠some .free->False):(relabel scope env).names.lookup x=some .cell∨(relabel scope env).names.lookup x=some .free:=by
 have hf:scope.names.lookup x=some .free:=by
   cases e:scope.names.lookup x with
   | none=>exact(hl (by rw[e];intro z;cases z)).elim
   | some k=>
     cases k <;> first
       | rfl
       | exact(hl (by rw[e];intro z;cases z)).elim
 have go:∀(names:List (Str×NameKind)),names.lookup x=some .free ->
   ((names.map fun(n,k)=>if (k==a6W&&env.scope.kind==.function&&env.kindOf n==some .cell) then (n,NameKind.cell) else (n,k)).lookup x=some .cell ∨
    (names.map fun(n,k)=>if (k==a6W&&env.scope.kind==.function&&env.kindOf n==some .cell) then (n,NameKind.cell) else (n,k)).lookup x=some .free):=by
   intro names
   induction names with
   | nil=>intro h;simp at h
   | cons y r ih=>
     obtain⟨n,k⟩:=y
     intro h
     rw[a2J] at h
     simp only[zI]
     cases hx:x==n with
     | true=>
       simp only[hx] at h
       cases h
       split
       · left;simp[a2J,hx]
       · right;simp[a2J,hx]
     | false=>
       simp only[hx] at h
       have:=ih h
       split
       · simpa [a2J,hx] using this
       · simpa [a2J,hx] using this
 exact go scope.names hf
end
end L2
namespace L2
open PySem PySem.Spec PyProof.Rows
theorem B3 {α:Type}{t:Sem α}{Q:α->Shared->Prop}{M:Model}{A:Around}{E:Value->Shared->Prop}{s:Shared}(h:wpAny M A t Q (fun _ _=>False) s):wpAny M A t Q E s:=
 wpAny_mono h (fun _ _ q=>q) fun _ _ f=>f.elim
def LX (ifs:List Expr) (env:Env):Sem Bool:=forIn ifs true fun c r=>if r=true then do let ok ← isTrue c env (eval c env);pure (b1V ok) else pure (b1V r)
theorem KY {prog:Program}{w:World}{A:Around}{R:Result->Shared->Prop}{s:Shared}{elt target iter:Expr}{ifs:List Expr}{scope:Scope}{pos:Pos}{it acc:Value}{env:Env}(I:Nat->Shared->Prop)
   (turn:∀n s,I n s->wpAny (model prog w) A (pyNext it) (fun r s₁=>match r with
     | none=>R (.ok .next) s₁
     | some v=>wpAny (model prog w) A (letOwnedTupleGo target it v) (fun _ s₀=>wpAny (model prog w) A (assign target env v) (fun _ s₂=>
         wpAny (model prog w) A (LX ifs env) (fun ok s₃=>
           if ok=true then wpAny (model prog w) A (eval elt env) (fun x s₄=>
             wpAny (model prog w) A (call (.builtin "list.append") [acc,x]) (fun _ s₅=>∃m,m < n/\I m s₅) (fun _ _=>False) s₄) (fun _ _=>False) s₃
           else ∃m,m < n/\I m s₃) (fun _ _=>False) s₂) (fun _ _=>False) s₀) (fun _ _=>False) s₁) (fun _ _=>False) s)
   (n:Nat) (h:I n s) :
   codeAny (model prog w) A (.compLoop (.ListComp elt [⟨target,iter,ifs,0⟩] scope pos) 0 it acc env) R s:=by
 refine codeAny_loop rfl I (fun n s hI=>?_) n h
 show wpAny _ A ((compTurn (.ListComp elt [⟨target,iter,ifs,0⟩] scope pos) 0 it acc env).onRaise (fun x=>do noteFrame x env;theTreesLotGoes x)) _ _ s
 refine wpAny_noted ?_
 rw[compTurn_list]
 refine zZ (wpAny_standAt (zZ (wpAny_mono (B3 (turn n s hI)) (fun r s₁ h₁=>?_) fun _ _ h'=>h')))
 cases r with
 | none=>exact zY h₁
 | some v=>
   refine zZ (wpAny_mono (B3 h₁) (fun _ s₀ h₀=>?_) fun _ _ h'=>h')
   refine zZ (wpAny_mono (B3 h₀) (fun _ s₂ h₂=>zZ (wpAny_mono (B3 h₂) (fun ok s₃ h₃=>?_) fun _ _ h'=>h')) fun _ _ h'=>h')
   cases ok with
   | false=>exact zY ⟨rfl,h₃⟩
   | true=>
     exact zZ (zZ (wpAny_mono (B3 h₃) (fun x s₄ h₄=>zZ (wpAny_mono (B3 h₄) (fun _ s₅ h₅=>zY (zY ⟨rfl,h₅⟩)) fun _ _ h'=>h')) fun _ _ h'=>h'))
def PTs (X:Cx) (ifs:List Expr) (t:TT):Prop:=
 ∀(pins:List (Addr×Obj)) (s:Shared) (σ:St) (H:Hp) (Q:Bool->Hp->Prop),Inv X pins σ H s->t σ H Q->wpAny (model X.prog X.w) X.A (LX ifs X.env) (TP X pins σ Q) X.xe s
def A0E:TT:=fun _ H Q=>Q true H
theorem p9 {X:Cx}:PTs X [] A0E:=fun _ _ _ H _ I h=>wpAny_tests_nil ⟨H,I,h⟩
theorem pA {X:Cx}{c:Expr}{t:TT}(h:PT X c t):PTs X [c] t:=fun pins s σ H Q I q=>wpAny_tests_one (h pins s σ H Q I q)
def UJ (fr:List (Option Nat)) (wi:TI) (g:TG) (tt:TT) (te:TE):TE:=fun σ H Q=>wi σ H fun J H1=>∀D,H1 D=none->∃W:Nat->Nat->List V->Hp->Prop,(∃m,W 0 m [] (upd H1 D (.lst []))) /\
 ∀i m ys H2,W i m ys H2->H2 D=some (.lst ys)/\((J.stop i H2/\Q (.ref D) H2)∨(J.go i H2/\∀x H3,J.yld i H2 x H3->g x (capt fr σ) H3 fun σ2 H4=>
   (∀(i:Nat) v,(capt fr σ)[i]?=some (some v)->σ2[i]?=some (some v))/\tt σ2 H4 fun c H5=>if c=true then te σ2 H5 fun y H6=>∃ys',H6 D=some (.lst ys')/\ys'.length < sizeLine/\∃m',m' < m/\W (i+1) m' (ys'++[y]) (upd H6 D (.lst (ys'++[y])))
     else ∃ys' m',m' < m/\W (i+1) m' ys' H5))
section
variable {X:Cx}{scope:Scope}{NC:List Str}{fr:List (Option Nat)}{pins:List (Addr×Obj)}{σ:St}{H:Hp}{s:Shared}
theorem RC {fp:List Addr}{h1:Heap}{m:Str->Option Value}{tk:Nat}(S:CSc X scope NC fr) (I:Inv X pins σ H s) (hfp:∀b∈fp,LT X pins H b) (hlt:∀b∈fp,b < s.heap.objs.size)
   (hns:h1.Ns s.heap.objs.size m) (hk:∀b o,s.heap.get? b=some o->h1.get? b=some o) :
   Inv (BM X scope NC s.heap.objs.size s H fp (X.pn++pins)) [] (capt fr σ) H { s with heap:=h1,toks:=tk }:=by
 have I4:Inv X pins σ H { s with heap:=h1,toks:=tk }:=I.kept hk
 have nstk:∀b,b≠X.env.locals->b∉X.fs->b∉frs X.stack:=fun b h1 h2 z=>(yX.mp (I.stkSub b z)).elim h1 h2
 refine⟨⟨I.ok.mod,S.kind,I.ok.glob,I.ok.blt,zR _,fun x y c h1 h2=>I.ok.inj x y c (BZ h1) (BZ h2),fun x hx=>?_,fun x c h=>absurd h (by intro z;cases z),I.ok.hd,I.ok.frames,.inl rfl,fun b hb=>?_,I.bs,zN I.ok.bsz I.sz,fun b o e hb=>?_,fun b hb=>?_,I.stack,I.stkFree⟩,
   rfl,I.bare,Un.kept hk,⟨m,hns,fun i x v e1 e2 e3=>?_⟩,fun x c e=>I4.cell x c (BZ e),I.hok.fresh (zR _),fun x c e=>I4.freeC x c (BZ e),fun p hp=>?_,I4.hok,?_⟩
 · have hx':=L6 (scope:=scope) (env:=X.env) (x:=x) (names:=scope.names) hx S.nocell
   obtain⟨c,h,_⟩:=S.cells I.ok hx'
   exact⟨c,h⟩
 · exact⟨zC (hlt b hb),fun x c e=>(hfp b hb).2.2.2.2.1 x c (BZ e)⟩
 · rcases (hfp b hb).2.2.2.1 with z | z
   · exact I.ok.noex b o e z
   · exact absurd (zP (zM e) (zN I.ok.bsz z)) (yF _)
 · exact nstk b (hfp b hb).2.1 (hfp b hb).2.2.1
 · have e2':∃j,fr[i]?=some (some j)/\σ[j]?=some (some v):=by
     unfold capt at e2
     rw[zF] at e2
     cases hf:fr[i]? with
     | none=>rw[hf] at e2;cases e2
     | some o=>
       rw[hf] at e2
       cases o with
       | none=>cases e2
       | some j=>
         refine⟨j,rfl,?_⟩
         have e2:((σ[j]?).join)=some v:=Option.some.inj e2
         cases hs:σ[j]? with
         | none=>rw[hs] at e2;cases e2
         | some q=>rw[hs] at e2;cases q with
           | none=>cases e2
           | some v'=>cases e2;rfl
   obtain⟨j,f1,f2⟩:=e2'
   obtain⟨g1,g2,g3,g4⟩:=S.slot i j x e1 f1
   obtain⟨m',hn',hl'⟩:=I4.loc
   obtain⟨u,r,l⟩:=hl' j x v g1 f2 g3
   rcases l with ⟨k,_⟩ | ⟨k,c,hc,hcell⟩
   · exact absurd k g4
   · obtain⟨c',q1,q2⟩:=S.cells I.ok (a4V g2)
     rw[hc] at q2;cases q2
     exact⟨u,r,.inr ⟨VR S.names (a4V g2) (fun z=>z g2),c,q1,hcell⟩⟩
 · have hp':p∈X.pn++pins:=by rw[a2W] at hp;exact hp
   obtain⟨p1,p2,p3,p4,p5⟩:=I4.pin p hp'
   exact⟨p1,p2,zC (zM (I.pin p hp').1),nstk _ p3 p4,p5⟩
 · unfold capt
   rw[zX]
   exact S.len
theorem XW {elt iter tg:Expr}{ifs:List Expr}{pos cpos:Pos}{wi:TI}{g:TG}{tt:TT}{te:TE}{use:Option (Value->Sem Unit)}{Q:VK}{QQ:Value->Shared->Prop}
   (hc:X.calm=true) (S:CSc X scope NC fr) (hi:PI X tg iter wi)
   (hb:∀(C:Addr) (s:Shared) (H:Hp) (ex:List Addr) (pn:List (Addr×Obj)),PG (BM X scope NC C s H ex pn) tg g/\PTs (BM X scope NC C s H ex pn) ifs tt/\PE (BM X scope NC C s H ex pn) elt te)
   (I:Inv X pins σ H s) (h:UJ fr wi g tt te σ H Q)
   (fin:∀(D C:Addr) (H':Hp) (s':Shared) (m:Str->Option Value) (oC:Obj),Inv X (pins++[(C,oC)]) σ H' s'->s'.heap.Ns C m->Q (.ref D) H' ->
     (∀(pins':List (Addr×Obj)) (σ2:St) (H2:Hp) (s2:Shared) (h2:Heap),Inv X (pins++[(C,oC)]) σ2 H2 s2->Heap.SameBut C s2.heap h2->Inv X pins σ2 H2 { s2 with heap:=h2 }) ->
     s'.heap.get? C=some oC ->
     match use with
     | none=>∀h',Heap.SameBut C s'.heap h'->QQ (.ref D) { s' with heap:=h' }
     | some u=>wpAny (model X.prog X.w) X.A (u (.ref D)) (fun _ s''=>∃m,s''.heap.Ns C m/\∀h',Heap.SameBut C s''.heap h'->QQ .none { s'' with heap:=h' }) X.xe s')
   (hs:∀x,foldedSetIterable iter X.env x=pure x) :
   wpAny (model X.prog X.w) X.A (comprehension (.ListComp elt [⟨tg,iter,ifs,0⟩] scope pos) scope X.env cpos (newList []) false (eval iter X.env) use) QQ X.xe s:=by
 refine wpAny_comprehension_free (use:=use) rfl hs (dC (S.has I.ok)) S.kind S.names (thn (hi pins s σ H _ I h) fun v s1 h1=>thn h1 fun itv s2 h2=>?_)
 obtain⟨it,fp,tn,J,H2,e,I2,T,st2,f2,hq⟩:=h2
 subst e
 have hDn:H2 s2.heap.objs.size=none:=I2.hok.fresh (zR _)
 obtain⟨W,⟨m0,w0⟩,turn⟩:=hq s2.heap.objs.size hDn
 refine xM (wpAny_newFunctionEnv S.nocell (by intro y hy;simp at hy) (fun h₁ hns₁ hsb₁=>?_) S.kind)
 dsimp only at hns₁ hsb₁ ⊢
 generalize hs3:({ s2 with heap:=s2.heap.push { cls:=.type "list", dict:=none,data:=.seq ([]:List Value).toArray } }:Shared)=s3
 have hh3:s2.heap.push { cls:=.type "list", dict:=none,data:=.seq ([]:List Value).toArray }=s3.heap:=by rw[← hs3]
 have I3:Inv X pins σ (upd H2 s2.heap.objs.size (.lst [])) s3:=by
   rw[← hs3]
   refine I2.laid (t':=s2.toks) (fun b u e=>zW _ e) (zR _) ?_
   exact⟨xT _,[],0,.nil,yZ _ rfl⟩
 rw[hh3] at hns₁ hsb₁ ⊢
 have sz3:s3.heap.objs.size=s2.heap.objs.size+1:=by rw[← hh3,a8X]
 have lt2:∀b∈fp,b < s2.heap.objs.size:=fun b hb=>by
   obtain⟨o,e,_⟩:=T.obj _ _ st2 b hb
   exact zM e
 have lt3:∀b∈fp,b < s3.heap.objs.size:=fun b hb=>by rw[sz3];exact b0V (lt2 b hb)
 have f3:∀b∈fp,LT X pins (upd H2 s2.heap.objs.size (.lst [])) b:=fun b hb=>⟨by rw[AM (zC (lt2 b hb))];exact(f2 b hb).1,(f2 b hb).2⟩
 have keep1:∀b o,s3.heap.get? b=some o->h₁.get? b=some o:=fun b o e=>hsb₁.extBut b o (zC (zM e)) (zW _ e)
 generalize hC:s3.heap.objs.size=C at hns₁ hsb₁ ⊢
 have I0:Inv (BM X scope NC C s3 (upd H2 s2.heap.objs.size (.lst [])) fp (X.pn++pins)) [] (capt fr σ) (upd H2 s2.heap.objs.size (.lst [])) { s2 with heap:=h₁,toks:=s2.toks+([]:List (Str×Value)).length }:=by
   have:=RC (tk:=s2.toks+([]:List (Str×Value)).length) (h1:=h₁) S I3 f3 lt3 (hC▸hns₁) keep1
   rw[hC] at this
   rw[← hs3] at this
   rw[← hs3]
   exact this
 obtain⟨hbg,hbt,hbe⟩:=hb C s3 (upd H2 s2.heap.objs.size (.lst [])) fp (X.pn++pins)
 generalize hX':BM X scope NC C s3 (upd H2 s2.heap.objs.size (.lst [])) fp (X.pn++pins)=X' at I0 hbg hbt hbe
 have eP:X'.prog=X.prog:=by rw[← hX'];rfl
 have eW:X'.w=X.w:=by rw[← hX'];rfl
 have eK:X'.K=X.K:=by rw[← hX'];rfl
 have eA:X'.A=X.A:=by rw[← hX'];rfl
 have eE:X'.env=compEnvC scope (LV X.env.cells scope.names []) C X.env:=by rw[← hX'];rfl
 have eX:X'.xe=fun _ _=>False:=by rw[← hX'];rfl
 have ec:X'.calm=true:=by rw[← hX'];exact hc
 have stat:∀{H':Hp},(∀b∈fp,H' b=none)->∀b∈fp,LT X' [] H' b:=fun {H'} hn b hb=>by
   obtain⟨q1,q2,q3,q4,q5,q6⟩:=f3 b hb
   rw[← hX']
   exact⟨hn b hb,by show b≠C;rw[← hC];exact zC (lt3 b hb),fun z=>(yX.mp (I3.stkSub b z)).elim q2 q3,.inl hb,fun x c e=>q5 x c (BZ e),fun p hp=>q6 p (by rw[a2W] at hp;exact hp)⟩
 have ends:∀(i m:Nat) (ys:List V) (H':Hp) (s':Shared),Inv X' [] (capt fr σ) H' s'->Q (.ref s2.heap.objs.size) H' ->
     compPost (model X.prog X.w) X.A X.xe use QQ (.ref s2.heap.objs.size) C (.ok .next) s':=by
   intro i m ys H' s' I' q'
   have eC:X'.env.locals=C:=by rw[eE];rfl
   obtain⟨mC,hnC,_⟩:=I'.loc
   rw[eC] at hnC
   have hCn:H' C=none:=by have:=I'.free;rw[eC] at this;exact this
   have un:Un (frs X.stack) fp (upd H2 s2.heap.objs.size (.lst [])) H' s3.heap s'.heap:=by
     have:=I'.base
     rw[← hX'] at this
     exact this
   have os':s'.os=s3.os:=by have:=I'.os;rw[← hX'] at this;exact this
   have hok':HOk X.prog X.w H' s'.heap:=by have:=I'.hok;rw[eP,eW] at this;exact this
   have Iout:Inv X pins σ H' s':=I3.call' (ch:=fp) os' un hok' I'.bare fun b hb=>⟨(f3 b hb).2.2.2.1,(f3 b hb).2.1,(f3 b hb).2.2.2.2.1,(f3 b hb).2.2.2.2.2⟩
   have C1:C≠X.env.locals:=by rw[← hC];exact a8Q I3.lt
   have C2:C∉X.fs:=by rw[← hC];exact I3.nofs (zR _)
   have C3:X.s₀.heap.objs.size<=C:=by rw[← hC];exact I3.sz
   have C4:∀x c,X.env.cells.lookup x=some c->c≠C:=fun x c e z=>by
     obtain⟨v,q⟩:=I3.cell x c e
     rw[z,← hC] at q
     exact absurd q.lt (yF _)
   have C5:∀p∈X.pn++pins,p.1≠C:=fun p hp z=>by
     have:=zM (I3.pin p hp).1
     rw[z,← hC] at this
     exact absurd this (yF _)
   obtain⟨oC,esC,epC,hoC,hdC,hrC⟩:=id hnC
   have Ipin:Inv X (pins++[(C,oC)]) σ H' s':=Iout.pins_of fun p hp=>(yW.mp hp).elim (fun z=>Iout.pin p (zB _ z)) fun z=>by
     have e:p=(C,oC):=by simpa using z
     subst e
     exact⟨hoC,hCn,C1,C2,fun v z=>by rw[hdC] at z;cases z⟩
   have res:=fin s2.heap.objs.size C H' s' mC oC Ipin hnC q' (fun _ σ2 H3 s4 h4 I4 sb=>by
     have J4:Inv X pins σ2 H3 s4:=I4.unpinned
     have hn4:H3 C=none:=(I4.pin (C,oC) (zB _ (zB _ (by simp)))).2.1
     exact J4.turned (t':=s4.toks) (it:=C) (fun b o hb e=>sb.extBut b o hb e) hn4 C1 (.inr C3) C4 C5) hoC
   cases use with
   | none=>exact⟨mC,hnC,res⟩
   | some u=>exact res
 have loop:∀s':Shared,s'={ s2 with heap:=h₁,toks:=s2.toks+([]:List (Str×Value)).length } ->
     codeAny (model X.prog X.w) X.A (.compLoop (.ListComp elt [⟨tg,iter,ifs,0⟩] scope pos) 0 (.ref it) (.ref s2.heap.objs.size) (compEnvC scope (LV X.env.cells scope.names []) C X.env))
       (compPost (model X.prog X.w) X.A X.xe use QQ (.ref s2.heap.objs.size) C) s':=by
   rintro s' rfl
   refine KY (fun n s'=>∃i ys H',Inv X' [] (capt fr σ) H' s'/\tn i s'.heap/\(∀b∈fp,H' b=none)/\W i n ys H') ?_ m0
     ⟨0,[],_,I0,T.keep _ _ _ st2 (fun b hb o e=>keep1 b o (by rw[← hh3];exact zW _ e)),fun b hb=>(f3 b hb).1,w0⟩
   rintro n s5 ⟨i,ys,H5,I5,st5,fr5,w5⟩
   obtain⟨hD5,hturn⟩:=turn i n ys H5 w5
   rcases hturn with ⟨stop,qn⟩ | ⟨go,step⟩
   · have:=T.done X' eP eW eK ec i [] s5 (capt fr σ) H5 (fun _ _=>False) I5 (stat fr5) st5 stop
     rw[eA] at this
     refine thn this fun r s6 ⟨hr,I6⟩=>?_
     subst hr
     exact ends i n ys H5 s6 I6 qn
   · have:=T.item X' eP eW eK ec i [] s5 (capt fr σ) H5 (fun _ _=>False) I5 (stat fr5) st5 go
     rw[eA] at this
     refine thn this fun r s6 ⟨u,hr,h6⟩=>?_
     subst hr
     refine thn h6 fun _ s7 ⟨x,H7,I7,r7,y7,st7,fr7⟩=>?_
     have I7':=I7.pinned (stat fr7) (T.obj _ _ st7)
     have hg1:=hbg _ s7 (capt fr σ) H7 x u _ I7' r7 (step x H7 y7)
     rw[eP,eW,eA,eE,eX] at hg1
     refine thn hg1 fun _ s8 ⟨σ8,H8,I8,ext8,q8⟩=>?_
     have ht1:=hbt _ s8 σ8 H8 _ I8 q8
     rw[eP,eW,eA,eE,eX] at ht1
     refine thn ht1 fun ok s9 ⟨H9,I9,q9⟩=>?_
     have weak:∀{H':Hp}{s':Shared},Inv X' ([]++OB fp s7.heap) σ8 H' s'->Inv X' [] (capt fr σ) H' s'/\tn (i+1) s'.heap/\∀b∈fp,H' b=none:=fun {H' s'} I'=>by
       refine⟨I'.unpinned.weak (by rw[I'.len];rw[I0.len]) ext8,T.keep _ _ _ st7 fun b hb o e=>(I'.pin (b,o) (zB _ (zB _ (E8 hb e)))).1,fun b hb=>?_⟩
       obtain⟨o,e,d⟩:=T.obj _ _ st7 b hb
       exact(I'.pin (b,o) (zB _ (zB _ (E8 hb e)))).2.1
     cases ok with
     | false=>
       rw[if_neg nft] at q9
       obtain⟨ys',m',hm',w'⟩:=q9
       obtain⟨a1,a2,a3⟩:=weak I9
       exact⟨m',hm',i+1,ys',H9,a1,a2,a3,w'⟩
     | true=>
       rw[if_pos rfl] at q9
       have he1:=hbe _ s9 σ8 H9 _ I9 q9
       rw[eP,eW,eA,eE,eX] at he1
       refine thn he1 fun y s10 ⟨yv,H10,I10,r10,ys',hD10,hsz,m',hm',w'⟩=>?_
       have ha:=UF (X:=X') _ s10 σ8 H10 (.ref s2.heap.objs.size) [yv] (.ref s2.heap.objs.size) [y] (fun _ H'=>∃m',m' < n/\W (i+1) m' (ys'++[yv]) H') I10 rfl (.cons r10 .nil) ⟨_,ys',yv,rfl,rfl,hD10,hsz,m',hm',w'⟩
       rw[eP,eW,eA,eX] at ha
       refine thn ha fun _ s11 ⟨_,H11,I11,_,m'',hm'',w''⟩=>?_
       obtain⟨a1,a2,a3⟩:=weak I11
       exact⟨m'',hm'',i+1,_,H11,a1,a2,a3,w''⟩
 refine codeAny_compStart_list (loop _ rfl) (T.self _ 0 _ _ _ ?_ (loop _ rfl))
 exact T.keep _ _ _ st2 (fun b hb o e=>keep1 b o (by rw[← hh3];exact zW _ e))
end
end L2
namespace L2
open PySem PySem.Spec PyProof.Rows
section
variable {X:Cx}{scope:Scope}{NC:List Str}{fr:List (Option Nat)}{elt iter tg:Expr}{ifs:List Expr}{pos:Pos}{wi:TI}{g:TG}{tt:TT}{te:TE}
theorem pB (hc:X.calm=true) (S:CSc X scope NC fr) (hi:PI X tg iter wi)
   (hb:∀(C:Addr) (s:Shared) (H:Hp) (ex:List Addr) (pn:List (Addr×Obj)),PG (BM X scope NC C s H ex pn) tg g/\PTs (BM X scope NC C s H ex pn) ifs tt/\PE (BM X scope NC C s H ex pn) elt te)
   (hs:∀x,foldedSetIterable iter X.env x=pure x:=by intro _;rfl):PE X (.ListComp elt [⟨tg,iter,ifs,0⟩] scope pos) (UJ fr wi g tt te):=by
 intro pins s σ H Q I h
 rw[eval_ListComp]
 refine XW (use:=none) (Q:=Q) hc S hi hb I h (fun D C H' s' m oC I' hn q back _ h' sb=>?_) hs
 exact⟨.ref D,H',back pins σ H' s' h' I' sb,rfl,q⟩
theorem pC {i:Nat}{x:Str}{py spos:Pos}(hc:X.calm=true) (hN:X.N.Nodup) (hix:X.N[i]?=some x) (hx:Loc X.env.scope x) (S:CSc X scope NC fr) (hi:PI X tg iter wi)
   (hb:∀(C:Addr) (s:Shared) (H:Hp) (ex:List Addr) (pn:List (Addr×Obj)),PG (BM X scope NC C s H ex pn) tg g/\PTs (BM X scope NC C s H ex pn) ifs tt/\PE (BM X scope NC C s H ex pn) elt te)
   (hsw:swapsWith (.ListComp elt [⟨tg,iter,ifs,0⟩] scope pos) (some (.Name x py)) spos.line X.env=pure true)
   (hf:X.fn x=true∨X.env.scope.names.lookup x=some .local:=by first | exact .inl rfl | exact .inr rfl | assumption)
   (hs:∀x,foldedSetIterable iter X.env x=pure x:=by intro _;rfl) :
   PS X (.Assign [.Name x py] (.ListComp elt [⟨tg,iter,ifs,0⟩] scope pos) spos) (fun D σ H=>UJ fr wi g tt te σ H fun v H'=>D.nx (σ.set i (some v)) H'):=by
 intro pins s σ H D I h
 rw[exec_Assign_Name_used _ _ _ _ hsw]
 refine zZ (wpAny_standAt (zZ ?_))
 show wpAny _ X.A (do let _ ← comprehension (.ListComp elt [⟨tg,iter,ifs,0⟩] scope pos) scope X.env _ (newList []) false (eval iter X.env) (some (assign (.Name x py) X.env))) _ _ s
 refine zZ (thn (XW (use:=some (assign (.Name x py) X.env)) (Q:=fun v H'=>D.nx (σ.set i (some v)) H') (QQ:=fun _ s'=>∃σ' H',Inv X pins σ' H' s'/\D.nx σ' H') hc S hi hb I h (fun A C H' s' m oC I' hn q back hoC=>?_) hs) fun _ s' hq=>zY (zY hq))
 have hst:=cU (X:=X) (pos:=py) hN hix hx hf (pins++[(C,oC)]) s' σ H' (.ref A) (.ref A) (fun σ' H'=>D.nx σ' H') I' rfl q
 refine thn hst fun _ s2 ⟨σ2,H2,I2,q2⟩=>?_
 have hC2:s2.heap.get? C=some oC:=(I2.pin (C,oC) (zB _ (zB _ (by simp)))).1
 obtain⟨o',es,ep,ho',hd',hr'⟩:=hn
 rw[hoC] at ho';cases ho'
 exact⟨m,⟨_,es,ep,hC2,hd',hr'⟩,fun h' sb=>⟨σ2,H2,back pins σ2 H2 s2 h' I2 sb,q2⟩⟩
end
def Its (x:Str):It:=⟨fun i _=>i < x.cps.size,fun i H v H'=>H'=H/\∃c,x.cps[i]?=some c/\v = .str ⟨#[c]⟩,fun i _=>i=x.cps.size⟩
theorem XX {P:Program}{w:World}{K:Frg}{tg:Expr}(it:Addr) (ty:String) (x:Str) (t:Tok) (hty:["enumerate", "zip", "dict_itemiterator", "dict_reverseitemiterator", "odict_iterator", "itertools.zip_longest", "itertools.pairwise"].contains ty=false)
   (W:∀A:Around,A.handled=none->Walks P w A it [it] [it] x.cps.size (SignAt x) (fun i h=>h.IsStrIter it ty x t i))
   (hself:∀(A:Around) (i:Nat) (s:Shared) (Q:Value->Shared->Prop) (E:Value->Shared->Prop),s.heap.IsStrIter it ty x t i->Q (.ref it) s->wpAny (model P w) A (pyIter (.ref it)) Q E s) :
   Turn P w K tg (Its x) [it] it (fun i h=>h.IsStrIter it ty x t i) where
 mem:=by simp
 obj:=fun i h st b hb=>by
   have e:b=it:=by simpa using hb
   subst e
   obtain⟨o,e,c,d⟩:=st
   exact⟨o,e,fun v z=>by rw[d] at z;cases z⟩
 keep:=fun i h h' st k=>by
   obtain⟨o,e,r⟩:=st
   exact⟨o,k it (by simp) o e,r⟩
 item:=by
   intro X hP hw hK hc i pins s σ H E I hf st hg
   subst hP hw hK
   obtain⟨f0,f1,f2,f3,f4,f5⟩:=hf it (by simp)
   refine(W X.A (I.ok.hd hc)).item i s _ _ hg st fun v h' tk hv st' kk=>?_
   obtain⟨c,u,hcx,rfl⟩:=hv
   have I1:Inv X pins σ H { s with heap:=h',toks:=tk }:=I.turned (fun b o hb e=>kk b o (by simpa using hb) e) f0 f1 f3 f4 f5
   obtain⟨o,e,c',d⟩:=id st'
   exact⟨_,rfl,cV (s:={ s with heap:=h',toks:=tk }) e c' d hty ⟨.str ⟨#[c]⟩,H,I1,⟨u,rfl⟩,⟨rfl,c,hcx,rfl⟩,st',fun b hb=>(hf b hb).1⟩⟩
 done:=by
   intro X hP hw hK hc i pins s σ H E I hf st hg
   subst hP hw hK
   obtain⟨f0,f1,f2,f3,f4,f5⟩:=hf it (by simp)
   have hi:i=x.cps.size:=hg
   subst hi
   refine(W X.A (I.ok.hd hc)).done s _ _ st fun h' tk kk=>⟨rfl,I.turned (fun b o hb e=>kk b o (by simpa using hb) e) f0 f1 f3 f4 f5⟩
 self:=hself
theorem VS (bs:List Bool):(a1Q bs.length).all (fun i=>(bs[i]?).getD false)=bs.all id:=by
 rw[a3Z,b1W,b1W]
 constructor
 · intro h b hb
   obtain⟨i,hi,rfl⟩:=List.mem_iff_getElem.mp hb
   have:=h i (by simpa using hi)
   simpa [hi] using this
 · intro h i hi
   have hi:i < bs.length:=by simpa using hi
   have:=h bs[i] (b1K hi)
   simpa [hi] using this
theorem VT (bs:List Bool):(a1Q bs.length).any (fun i=>(bs[i]?).getD false)=bs.any id:=by
 rw[a3Z,a5V,a5V]
 constructor
 · rintro⟨i,hi,h⟩
   have hi:i < bs.length:=by simpa using hi
   exact⟨bs[i],b1K hi,by simpa [hi] using h⟩
 · rintro⟨b,hb,h⟩
   obtain⟨i,hi,rfl⟩:=List.mem_iff_getElem.mp hb
   exact⟨i,by simpa using hi,by simpa [hi] using h⟩
section
variable {X:Cx}
theorem dD {bs:List Bool}{its:List Value}(r:Vals (bs.map V.bl) its) {i:Nat}{v:Value}(h:its.toArray[i]?=some v):v = .bool ((bs[i]?).getD false):=by
 have h':its[i]?=some v:=by simpa using h
 have hl:i < its.length:=(yT.mp h').1
 have e:=r.length
 rw[zX] at e
 have hb:(bs.map V.bl)[i]?=some (V.bl bs[i]):=by rw[zF];simp[show i < bs.length by omega]
 obtain⟨u,hu,ru⟩:=r.get hb
 rw[h'] at hu;cases hu
 simp[show i < bs.length by omega]
 exact ru
def A0o (X:Cx):List V->Hp->VK->Prop:=fun xs H Q=>∃(p:Addr) (bs:List Bool),xs=[.ref p]/\SqL X.K H p (bs.map V.bl)/\Q (.bl (bs.all id)) H
theorem jZ (hc:X.calm=true):BO X (.builtin "all") (A0o X):=by
 intro pins s σ H xs us Q I r h
 obtain⟨p,bs,rfl,hp,q⟩:=h
 obtain⟨u,rfl,ru⟩:=F6 r
 cases ru
 obtain⟨its,rv,pl,hz⟩:=I.list hp
 have hne:p≠s.heap.objs.size:=by obtain⟨o,n,e,_⟩:=pl;exact zC (zM e)
 have el:=rv.length
 rw[zX] at el
 refine call_all_walk (wpAny_pyIter_list pl.isList ?_)
 refine⟨s.heap.objs.size,_,_,_,_,_,fun i=>(bs[i]?).getD false,rfl,Walks.list (show X.A.in1.handled=none from I.ok.hd hc) s.heap.objs.size p hne its.toArray,⟨⟨_,yZ _ rfl,rfl,rfl⟩,?_⟩,fun i v s' Q' E' hv hq=>?_,fun h' tk hk=>?_⟩
 · obtain⟨o,n,e,c,d,dd⟩:=pl
   exact⟨o,zW _ e,c,n,dd⟩
 · rw[dD rv hv]
   exact wpAny_truthy_bool hq
 · refine⟨.bl (bs.all id),H,?_,?_,q⟩
   · exact I.kept (t':=tk) fun b o e=>hk b o (by simp;exact zC (zM e)) (zW _ e)
   · rw[zJ,← el,VS];rfl
def A0p (X:Cx):List V->Hp->VK->Prop:=fun xs H Q=>∃(p:Addr) (bs:List Bool),xs=[.ref p]/\SqL X.K H p (bs.map V.bl)/\Q (.bl (bs.any id)) H
theorem k0 (hc:X.calm=true):BO X (.builtin "any") (A0p X):=by
 intro pins s σ H xs us Q I r h
 obtain⟨p,bs,rfl,hp,q⟩:=h
 obtain⟨u,rfl,ru⟩:=F6 r
 cases ru
 obtain⟨its,rv,pl,hz⟩:=I.list hp
 have hne:p≠s.heap.objs.size:=by obtain⟨o,n,e,_⟩:=pl;exact zC (zM e)
 have el:=rv.length
 rw[zX] at el
 refine call_any_walk (wpAny_pyIter_list pl.isList ?_)
 refine⟨s.heap.objs.size,_,_,_,_,_,fun i=>(bs[i]?).getD false,rfl,Walks.list (show X.A.in1.handled=none from I.ok.hd hc) s.heap.objs.size p hne its.toArray,⟨⟨_,yZ _ rfl,rfl,rfl⟩,?_⟩,fun i v s' Q' E' hv hq=>?_,fun h' tk hk=>?_⟩
 · obtain⟨o,n,e,c,d,dd⟩:=pl
   exact⟨o,zW _ e,c,n,dd⟩
 · rw[dD rv hv]
   exact wpAny_truthy_bool hq
 · refine⟨.bl (bs.any id),H,?_,?_,q⟩
   · exact I.kept (t':=tk) fun b o e=>hk b o (by simp;exact zC (zM e)) (zW _ e)
   · rw[zJ,← el,VT];rfl
def vB:V->Option Int->Option Int->Hp->VK->Prop:=fun x lo hi H Q=>∃y,x = .str y/\y.length<=sizeLine/\Q (.str (a1X y lo hi)) H
theorem vC:SlR X vB:=by
 intro pins s σ H x v vl vu lo hi sl Q I rx hs pl pu h
 obtain⟨y,rfl,hz,q⟩:=h
 obtain⟨t,rfl⟩:=rx
 refine⟨"str", _,F.slot_str_getitem.lookup,typeIs_str _ _ _,?_⟩
 cases pl with
 | none=>
   cases pu with
   | none=>exact wpAny_getItem_str_slice (l:=none) (u:=none) (st:=none) hs rfl (post_val_or_str ⟨zN (Txt.slice_le y _ _) hz,fun t' k=>⟨.str _,H,I.tok _,⟨_,rfl⟩,q⟩⟩)
   | int j tj=>exact wpAny_getItem_str_slice (l:=none) (u:=some (j,tj)) (st:=none) hs rfl (post_val_or_str ⟨zN (Txt.slice_le y _ _) hz,fun t' k=>⟨.str _,H,I.tok _,⟨_,rfl⟩,q⟩⟩)
 | int i ti=>
   cases pu with
   | none=>exact wpAny_getItem_str_slice (l:=some (i,ti)) (u:=none) (st:=none) hs rfl (post_val_or_str ⟨zN (Txt.slice_le y _ _) hz,fun t' k=>⟨.str _,H,I.tok _,⟨_,rfl⟩,q⟩⟩)
   | int j tj=>exact wpAny_getItem_str_slice (l:=some (i,ti)) (u:=some (j,tj)) (st:=none) hs rfl (post_val_or_str ⟨zN (Txt.slice_le y _ _) hz,fun t' k=>⟨.str _,H,I.tok _,⟨_,rfl⟩,q⟩⟩)
theorem dE:∀{ys:List Str}{its:List Value},Vals (ys.map V.str) its->StrsAre its ys
 | [],_,.nil=>.nil
 | y::r,_,.cons h t=>by
   obtain⟨tk,rfl⟩:=h
   exact .cons y tk (dE t)
def tD (K:Frg):R2:=fun x y H Q=>∃a b xs ys,x = .ref a/\y = .ref b/\SqL K H a xs/\SqL K H b ys/\xs.length+ys.length<=sizeLine/\∀p,H p=none->Q (.ref p) (upd H p (.lst (xs++ys)))
theorem pD:OpR X (binaryOp .Add) (tD X.K):=by
 intro pins s σ H x y v u Q I rx ry h
 obtain⟨l,b,xs,zs,rfl,rfl,hH,hB,hz,q⟩:=h
 cases rx
 cases ry
 obtain⟨its,r,pl,hl⟩:=I.list hH
 obtain⟨its2,r2,pl2,hl2⟩:=I.list hB
 have e1:=r.length
 have e2:=r2.length
 obtain⟨⟨cls,dd,data,sl⟩,n,ho,hc,_,hd⟩:=pl
 obtain⟨⟨cls2,dd2,data2,sl2⟩,n2,ho2,hc2,_,hd2⟩:=pl2
 dsimp only at hc hd hc2 hd2
 subst hc hd hc2 hd2
 have ea:its.toArray++its2.toArray=(its++its2).toArray:=by simp
 have fin:EP X pins σ Q (.ref s.heap.objs.size) { s with heap:=s.heap.push { cls:=.type "list", data:=.seq (its.toArray++its2.toArray) } }:=by
   rw[ea]
   exact⟨.ref _,_,I.lnew (t':=s.toks) (r.append r2) (by rw[yY];omega),rfl,q _ I.fresh⟩
 exact concat_meets ⟨_,ho,rfl⟩ ⟨_,ho2,rfl⟩ noFill_list_add seq_list_add PySem.F.slot_list_add PySem.F.entry_list_add (PySem.F.args_list_add_2 _ _) (list_addW l b its.toArray its2.toArray n n2 dd dd2 sl sl2 (by rw[zJ,zJ];omega)) ⟨ho,ho2,fin⟩
def tE (i j:Int):Prop:=0 < j/\j < 2 ^ 64
theorem k6:OpR X (binaryOp .FloorDiv) (rI tE fun i j=>.int (i/j)):=opI fun i j _ _ _ _ _ hc q=>by
 have h1:(0:Int) < j:=hc.1
 have h2:j.natAbs.log2 < 9000:=by
   have h0:j.natAbs≠0:=by omega
   have:j.natAbs < 2 ^ 64:=by have:=hc.2;omega
   exact zP ((Nat.log2_lt h0).mpr this) (by decide)
 exact floordiv_int (by omega) (by rw[Int.fdiv_eq_ediv_of_nonneg i (by omega)];exact q) (.inl (PyProof.noPylong_of_log2 h2))
end
end L2
namespace L2
open PySem PySem.Spec PyProof.Rows
def gC:Key->PyData
 | .inl i=>.int i
 | .inr x=>.str x
def LW (K:Frg) (H:Hp) (W:Addr->Prop) (a:Addr) (xs:List V):Prop:=
 (¬W a/\Rd H a (.lst xs))∨∃(o:Obj) (its:Array Value) (n:Nat),K.lookup a=some o/\o.cls = .type "list" /\ o.dict=none/\o.data = .seq its n/\its.size<=sizeLine/\Vals xs its.toList
def TW (K:Frg) (H:Hp) (W:Addr->Prop) (a:Addr) (xs:List V):Prop:=
 (¬W a/\Rd H a (.tup xs))∨∃(o:Obj) (its:Array Value) (n:Nat),K.lookup a=some o/\o.cls = .type "tuple" /\ o.data = .seq its n/\its.size<=sizeLine/\Vals xs its.toList
theorem LW.sq {K:Frg}{H:Hp}{W:Addr->Prop}{a:Addr}{xs:List V}(h:LW K H W a xs):SqL K H a xs:=h.elim (fun z=>.inl z.2) .inr
theorem TW.sq {K:Frg}{H:Hp}{W:Addr->Prop}{a:Addr}{xs:List V}(h:TW K H W a xs):SqT K H a xs:=h.elim (fun z=>.inl z.2) .inr
mutual
def DV (K:Frg) (H:Hp) (W:Addr->Prop):PyData->V->Prop
 | .none,v=>v = .non
 | .bool b,v=>v = .bl b
 | .int i,v=>v = .int i
 | .str x,v=>v = .str x
 | .list ds,v=>∃a vs,v = .ref a/\LW K H W a vs/\DVs K H W ds vs
 | .tuple ds,v=>∃a vs,v = .ref a/\TW K H W a vs/\DVs K H W ds vs
 | .dict kvs,v=>∃a kvs',v = .ref a/\¬W a/\Rd H a (.dK kvs')/\DKV K H W kvs kvs'
def DVs (K:Frg) (H:Hp) (W:Addr->Prop):List PyData->List V->Prop
 | [],vs=>vs=[]
 | d::ds,vs=>∃v r,vs=v::r/\DV K H W d v/\DVs K H W ds r
def DKV (K:Frg) (H:Hp) (W:Addr->Prop):List (PyData×PyData)->List (Key×V)->Prop
 | [],vs=>vs=[]
 | (k,d)::ds,vs=>∃k' v r,vs=(k',v)::r/\k=gC k'/\DV K H W d v/\DKV K H W ds r
end
structure Grow (K:Frg) (W W':Addr->Prop) (H H':Hp):Prop where
 keep:∀b o,H b=some o->¬W b->H' b=some o∨∃ks ob,o = .dK ks/\H' b=some (.frz ob o)
 new:∀b,W' b->W b∨H b=none
theorem Grow.refl {K:Frg}{W:Addr->Prop}{H:Hp}:Grow K W W H H:=⟨fun _ _ h _=>.inl h,fun _ h=>.inl h⟩
section
variable {K:Frg}{W W' W2:Addr->Prop}{H H' H2:Hp}
theorem Rd.grow (g:Grow K W W' H H') {a:Addr}{o:HO}(nw:¬W a) (h:Rd H a o):Rd H' a o:=by
 rcases h with h | ⟨o',h⟩
 · rcases g.keep _ _ h nw with e | ⟨ks,ob,_,e⟩
   · exact .inl e
   · exact .inr ⟨ob,e⟩
 · rcases g.keep _ _ h nw with e | ⟨ks,ob,e,_⟩
   · exact .inr ⟨o',e⟩
   · cases e
theorem Grow.kept (g:Grow K W W' H H') {a:Addr}{o:HO}(h:H a=some o) (nw:¬W a) (n:∀ks,o≠.dK ks):H' a=some o:=(g.keep a o h nw).elim id fun⟨ks,_,e,_⟩=>absurd e (n ks)
theorem Rd.ne_none {H:Hp}{a:Addr}{o:HO}(h:Rd H a o):H a≠none:=by
 rcases h with h | ⟨o',h⟩ <;> rw[h] <;> simp
theorem Rd.nw (g:Grow K W W' H H') {a:Addr}{o:HO}(nw:¬W a) (h:Rd H a o):¬W' a:=fun w=>by
 rcases g.new a w with z | z
 · exact nw z
 · exact Rd.ne_none h z
theorem LW.grow (g:Grow K W W' H H') {a:Addr}{xs:List V}(h:LW K H W a xs):LW K H' W' a xs:=h.elim (fun z=>.inl ⟨z.2.nw g z.1,z.2.grow g z.1⟩) .inr
theorem TW.grow (g:Grow K W W' H H') {a:Addr}{xs:List V}(h:TW K H W a xs):TW K H' W' a xs:=h.elim (fun z=>.inl ⟨z.2.nw g z.1,z.2.grow g z.1⟩) .inr
mutual
theorem DV.grow (g:Grow K W W' H H'):∀{d:PyData}{v:V},DV K H W d v->DV K H' W' d v
 | .none,v,h=>by unfold DV at h ⊢;exact h
 | .bool b,v,h=>by unfold DV at h ⊢;exact h
 | .int i,v,h=>by unfold DV at h ⊢;exact h
 | .str x,v,h=>by unfold DV at h ⊢;exact h
 | .list ds,v,h=>by
   unfold DV at h ⊢
   obtain⟨a,vs,e,hs,hd⟩:=h
   exact⟨a,vs,e,hs.grow g,DVs.grow g hd⟩
 | .tuple ds,v,h=>by
   unfold DV at h ⊢
   obtain⟨a,vs,e,hs,hd⟩:=h
   exact⟨a,vs,e,hs.grow g,DVs.grow g hd⟩
 | .dict kvs,v,h=>by
   unfold DV at h ⊢
   obtain⟨a,vs,e,nw,hs,hd⟩:=h
   exact⟨a,vs,e,hs.nw g nw,hs.grow g nw,DKV.grow g hd⟩
theorem DVs.grow (g:Grow K W W' H H'):∀{ds:List PyData}{vs:List V},DVs K H W ds vs->DVs K H' W' ds vs
 | [],vs,h=>by unfold DVs at h ⊢;exact h
 | d::ds,vs,h=>by
   unfold DVs at h ⊢
   obtain⟨v,r,e,h1,h2⟩:=h
   exact⟨v,r,e,DV.grow g h1,DVs.grow g h2⟩
theorem DKV.grow (g:Grow K W W' H H'):∀{ds:List (PyData×PyData)}{vs:List (Key×V)},DKV K H W ds vs->DKV K H' W' ds vs
 | [],vs,h=>by unfold DKV at h ⊢;exact h
 | (k,d)::ds,vs,h=>by
   unfold DKV at h ⊢
   obtain⟨k',v,r,e,e2,h1,h2⟩:=h
   exact⟨k',v,r,e,e2,DV.grow g h1,DKV.grow g h2⟩
end
theorem Grow.trans (a:Grow K W W' H H') (b:Grow K W' W2 H' H2):Grow K W W2 H H2:=by
 refine⟨fun x o h nw=>?_,fun x w=>?_⟩
 · have nw':¬W' x:=fun w=>by
     rcases a.new x w with z | z
     · exact nw z
     · rw[h] at z;cases z
   rcases a.keep x o h nw with e | ⟨ks,ob,e1,e2⟩
   · exact b.keep x o e nw'
   · exact .inr ⟨ks,ob,e1,b.kept e2 nw' fun _ z=>nomatch z⟩
 · rcases b.new x w with z | z1
   · exact a.new x z
   · by_cases hx:W x
     · exact .inl hx
     · refine .inr ?_
       cases e:H x with
       | none=>rfl
       | some o=>
         rcases a.keep x o e hx with q | ⟨_,_,_,q⟩ <;> (rw[q] at z1;cases z1)
theorem DVs.length:∀{ds:List PyData}{vs:List V},DVs K H W ds vs->vs.length=ds.length
 | [],vs,h=>by unfold DVs at h;subst h;rfl
 | d::ds,vs,h=>by
   unfold DVs at h
   obtain⟨v,r,e,h1,h2⟩:=h
   subst e
   simp[DVs.length h2]
theorem DVs.get:∀{ds:List PyData}{vs:List V}{i:Nat}{v:V},DVs K H W ds vs->vs[i]?=some v->∃d,ds[i]?=some d/\DV K H W d v
 | [],vs,i,v,h,e=>by unfold DVs at h;subst h;simp at e
 | d::ds,vs,i,v,h,e=>by
   unfold DVs at h
   obtain⟨u,r,e',h1,h2⟩:=h
   subst e'
   cases i with
   | zero=>simp at e;subst e;exact⟨d,rfl,h1⟩
   | succ i=>simpa using DVs.get h2 (by simpa using e)
theorem DVs.get':∀{ds:List PyData}{vs:List V}{i:Nat}{d:PyData},DVs K H W ds vs->ds[i]?=some d->∃v,vs[i]?=some v/\DV K H W d v
 | [],vs,i,v,h,e=>by simp at e
 | d::ds,vs,i,v,h,e=>by
   unfold DVs at h
   obtain⟨u,r,e',h1,h2⟩:=h
   subst e'
   cases i with
   | zero=>simp at e;subst e;exact⟨u,rfl,h1⟩
   | succ i=>simpa using DVs.get' h2 (by simpa using e)
theorem DVs.nil:DVs K H W [] []:=by unfold DVs;rfl
theorem DVs.cons {d:PyData}{v:V}{ds:List PyData}{vs:List V}(h:DV K H W d v) (t:DVs K H W ds vs):DVs K H W (d::ds) (v::vs):=by unfold DVs;exact⟨v,vs,rfl,h,t⟩
theorem DVs.append:∀{ds es:List PyData}{vs us:List V},DVs K H W ds vs->DVs K H W es us->DVs K H W (ds++es) (vs++us)
 | [],es,vs,us,h,t=>by unfold DVs at h;subst h;exact t
 | d::ds,es,vs,us,h,t=>by
   unfold DVs at h
   obtain⟨u,r,e',h1,h2⟩:=h
   subst e'
   exact DVs.cons h1 (DVs.append h2 t)
theorem DVs.set:∀{ds:List PyData}{vs:List V}{d:PyData}{v:V}(i:Nat),DVs K H W ds vs->DV K H W d v->DVs K H W (ds.set i d) (vs.set i v)
 | [],vs,d,v,i,h,t=>by unfold DVs at h;subst h;exact DVs.nil
 | e::ds,vs,d,v,i,h,t=>by
   unfold DVs at h
   obtain⟨u,r,e',h1,h2⟩:=h
   subst e'
   cases i with
   | zero=>exact DVs.cons t h2
   | succ i=>exact DVs.cons h1 (DVs.set i h2 t)
theorem DVs.drop:∀{ds:List PyData}{vs:List V}(i:Nat),DVs K H W ds vs->DVs K H W (ds.drop i) (vs.drop i)
 | ds,vs,0,h=>h
 | [],vs,i+1,h=>by unfold DVs at h;subst h;exact DVs.nil
 | e::ds,vs,i+1,h=>by
   unfold DVs at h
   obtain⟨u,r,e',h1,h2⟩:=h
   subst e'
   exact DVs.drop i h2
theorem DVs.take:∀{ds:List PyData}{vs:List V}(i:Nat),DVs K H W ds vs->DVs K H W (ds.take i) (vs.take i)
 | ds,vs,0,h=>DVs.nil
 | [],vs,i+1,h=>by unfold DVs at h;subst h;exact DVs.nil
 | e::ds,vs,i+1,h=>by
   unfold DVs at h
   obtain⟨u,r,e',h1,h2⟩:=h
   subst e'
   exact DVs.cons h1 (DVs.take i h2)
theorem OD:∀{bs:List Bool}{vs:List V},DVs K H W (bs.map b5J) vs->vs=bs.map V.bl
 | [],vs,h=>by unfold DVs at h;exact h
 | b::bs,vs,h=>by
   simp only[zI] at h
   unfold DVs at h
   obtain⟨u,r,e',h1,h2⟩:=h
   unfold DV at h1
   subst e' h1
   rw[OD h2];rfl
theorem RD:∀{bs:List Str}{vs:List V},DVs K H W (bs.map a0K) vs->vs=bs.map V.str
 | [],vs,h=>by unfold DVs at h;exact h
 | b::bs,vs,h=>by
   simp only[zI] at h
   unfold DVs at h
   obtain⟨u,r,e',h1,h2⟩:=h
   unfold DV at h1
   subst e' h1
   rw[RD h2];rfl
end
section
variable {X:Cx}{pins:List (Addr×Obj)}{σ:St}{H:Hp}{s:Shared}{W:Addr->Prop}
mutual
theorem DV.reads (I:Inv X pins σ H s):∀{d:PyData}{v:V}{u:Value},d.canLay0=true->DV X.K H W d v->RelV v u->∃as,PySem.Reads s.heap u d as
 | .none,v,u,c,h,r=>by unfold DV at h;subst h;cases r;exact⟨_,.none⟩
 | .bool b,v,u,c,h,r=>by unfold DV at h;subst h;cases r;exact⟨_,.bool b⟩
 | .int i,v,u,c,h,r=>by unfold DV at h;subst h;obtain⟨t,rfl⟩:=r;exact⟨_,.int i t⟩
 | .str x,v,u,c,h,r=>by unfold DV at h;subst h;obtain⟨t,rfl⟩:=r;exact⟨_,.str x t⟩
 | .list ds,v,u,c,h,r=>by
   unfold DV at h
   obtain⟨a,vs,rfl,hs,hd⟩:=h
   cases r
   obtain⟨its,rv,⟨o,n,e,hc,_,dd⟩,_⟩:=I.list hs.sq
   obtain⟨as,q⟩:=DVs.reads I (by simpa [PyData.canLay0] using c) hd rv
   exact⟨_,.list e hc dd (by simpa using q)⟩
 | .tuple ds,v,u,c,h,r=>by
   unfold DV at h
   obtain⟨a,vs,rfl,hs,hd⟩:=h
   cases r
   obtain⟨its,rv,⟨o,e,hc,n,dd⟩,_⟩:=I.tuple hs.sq
   obtain⟨as,q⟩:=DVs.reads I (by simpa [PyData.canLay0] using c) hd rv
   exact⟨_,.tuple e hc dd (by simpa using q)⟩
 | .dict kvs,v,u,c,h,r=>by simp[PyData.canLay0] at c
theorem DVs.reads (I:Inv X pins σ H s):∀{ds:List PyData}{vs:List V}{us:List Value},b8J ds=true->DVs X.K H W ds vs->Vals vs us->∃as,PySem.ReadsAll s.heap us ds as
 | [],vs,us,c,h,r=>by unfold DVs at h;subst h;cases r;exact⟨_,.nil⟩
 | d::ds,vs,us,c,h,r=>by
   unfold DVs at h
   obtain⟨v,q,rfl,h1,h2⟩:=h
   cases r with
   | cons r1 r2=>
     simp[b8J] at c
     obtain⟨as,q1⟩:=DV.reads I c.1 h1 r1
     obtain⟨bs,q2⟩:=DVs.reads I c.2 h2 r2
     exact⟨_,.cons q1 q2⟩
end
def gD (K:Frg) (neg:Bool):R2:=fun x y H Q=>∃(W:Addr->Prop) (da db:PyData),DV K H W da x/\DV K H W db y/\zH da=true/\zH db=true/\Q (.bl (if neg then !a0X da db else a0X da db)) H
theorem vD (hu:X.A.units+64 < cLine):OpR X (compareOp .Eq) (gD X.K false):=by
 intro pins s σ H x y v u Q I rx ry h
 obtain⟨W,da,db,h1,h2,s1,s2,q⟩:=h
 obtain⟨as,r1⟩:=h1.reads I (zG s1) rx
 obtain⟨bs,r2⟩:=h2.reads I (zG s2) ry
 exact PySem.SeqAt.compareEq_shaped r1 r2 s1 s2 hu ⟨.bl _,H,I,rfl,q⟩
theorem vE (hu:X.A.units+64 < cLine):OpR X (compareOp .NotEq) (gD X.K true):=by
 intro pins s σ H x y v u Q I rx ry h
 obtain⟨W,da,db,h1,h2,s1,s2,q⟩:=h
 obtain⟨as,r1⟩:=h1.reads I (zG s1) rx
 obtain⟨bs,r2⟩:=h2.reads I (zG s2) ry
 exact PySem.SeqAt.compareNe_shaped r1 r2 s1 s2 hu ⟨.bl _,H,I,rfl,q⟩
end
end L2
namespace DL
open PySem PySem.Spec L2
abbrev St:=L2.St
inductive MO where
 | l (ds:List PyData)
 | d (kvs:List (PyData×PyData))
 | x (C:Addr) (fs:List (Str×PyData))
abbrev Own:=Addr->Option MO
def Own.W (M:Own):Addr->Prop:=fun a=>M a≠none
def Own.put (M:Own) (a:Addr) (o:MO):Own:=fun b=>if b=a then some o else M b
def Own.del (M:Own) (a:Addr):Own:=fun b=>if b=a then none else M b
def Own.Sub (M N:Own):Prop:=∀a o,M a=some o->N a=some o
theorem zU {M:Own}{a:Addr}{o:MO}:M.put a o a=some o:=by unfold Own.put;rw[if_pos rfl]
theorem yH {M:Own}{a b:Addr}{o:MO}(h:b≠a):M.put a o b=M b:=by unfold Own.put;rw[if_neg h]
theorem yI {M:Own}{a:Addr}{o o':MO}:(M.put a o).put a o'=M.put a o':=by
 funext b;unfold Own.put;by_cases h:b=a <;> simp[h]
theorem yG {M:Own}{a:Addr}{o:MO}(h:M a=none):(M.put a o).del a=M:=by
 funext b;unfold Own.put Own.del
 by_cases e:b=a
 · subst e;simp[h]
 · simp[e]
theorem Own.put_self {M:Own}{a:Addr}{o:MO}(h:M a=some o):M.put a o=M:=by
 funext b;unfold Own.put
 by_cases e:b=a
 · subst e;simp[h]
 · simp[e]
theorem zT (M:Own):M.Sub M:=fun _ _ h=>h
theorem Own.Sub.put {M N:Own}{a:Addr}{o:MO}(h:M.Sub N) (n:M a=none):M.Sub (N.put a o):=fun b x e=>by
 rw[yH (by rintro rfl;rw[n] at e;cases e)];exact h b x e
inductive DS where
 | d (x:PyData)
 | loc (a:Addr)
 | ty (n:String)
 | tl (ds:List PyData) (a:Addr)
def SI (K:Frg) (H:Hp) (M:Own):DS->V->Prop
 | .d x,v=>DV K H M.W x v
 | .loc a,v=>v = .ref a
 | .ty n,v=>v = .ty n
 | .tl ds a,v=>∃b vs,v = .ref b/\TW K H M.W b (vs++[.ref a])/\DVs K H M.W ds vs
def SIs (K:Frg) (H:Hp) (M:Own):List DS->List V->Prop
 | [],vs=>vs=[]
 | d::ds,vs=>∃v r,vs=v::r/\SI K H M d v/\SIs K H M ds r
def XI (K:Frg) (H:Hp) (W:Addr->Prop):Option Addr->List (Str×PyData)->Prop
 | none,[]=>True
 | some d,[(n,x)]=>∃v,¬W d/\H d=some (.xd [(n,v)])/\DV K H W x v
 | _,_=>False
theorem XI.grow {K:Frg}{W W':Addr->Prop}{H H':Hp}(g:Grow K W W' H H') {dd:Option Addr}{fs:List (Str×PyData)}(h:XI K H W dd fs):XI K H' W' dd fs:=by
 unfold XI at h ⊢
 split at h
 · trivial
 · obtain⟨v,nw,a,b⟩:=h
   exact⟨v,fun z=>(g.new _ z).elim nw fun q=>by(rw[a] at q;cases q),g.kept a nw (fun _ z=>nomatch z),b.grow g⟩
 · exact h.elim
def exK (a C:Addr) (dd:Option Addr):HO:=.ext fun h=>∃o vs,h.get? a=some o/\o.cls = .ref C/\o.dict=dd/\o.data = .fields vs
def OA1 (K:Frg) (H:Hp) (M:Own) (a:Addr):MO->Prop
 | .x C fs=>∃dd,H a=some (exK a C dd)/\XI K H M.W dd fs
 | .l ds=>∃vs,H a=some (.lst vs)/\DVs K H M.W ds vs
 | .d kvs=>∃ks,H a=some (.dK ks)/\DKV K H M.W kvs ks
def OA (K:Frg) (H:Hp) (M:Own):Prop:=∀a o,M a=some o->OA1 K H M a o
structure Step (K:Frg) (M M':Own) (H H':Hp):Prop where
 grow:Grow K M.W M'.W H H'
structure Rel (K:Frg) (M:Own) (ρ:List (Option DS)) (σ:St) (H:Hp):Prop where
 own:OA K H M
 len:ρ.length=σ.length
 slot:∀(i:Nat) x,ρ[i]?=some (some x)->∃v,σ[i]?=some (some v)/\SI K H M x v
section
variable {K:Frg}{M M' M2:Own}{H H' H2:Hp}{ρ:List (Option DS)}{σ:St}
theorem Step.refl:Step K M M H H:=⟨Grow.refl⟩
theorem Step.trans (a:Step K M M' H H') (b:Step K M' M2 H' H2):Step K M M2 H H2:=⟨a.grow.trans b.grow⟩
theorem SI.step (st:Step K M M' H H'):∀{x:DS}{v:V},SI K H M x v->SI K H' M' x v
 | .d _,_,h=>DV.grow st.grow h
 | .loc _,_,h=>h
 | .ty _,_,h=>h
 | .tl _ _,_,⟨b,vs,e,h1,h2⟩=>⟨b,vs,e,h1.grow st.grow,h2.grow st.grow⟩
theorem Rel.step (R:Rel K M ρ σ H) (oa:OA K H' M') (st:Step K M M' H H'):Rel K M' ρ σ H':=
 ⟨oa,R.len,fun i x e=>let ⟨v,h1,h2⟩:=R.slot i x e;⟨v,h1,h2.step st⟩⟩
theorem Rel.set (R:Rel K M ρ σ H) {x:DS}{v:V}(h:SI K H M x v) (i:Nat):Rel K M (ρ.set i (some x)) (σ.set i (some v)) H:=by
 refine⟨R.own,by rw[List.length_set,List.length_set];exact R.len,fun j y e=>?_⟩
 rw[List.getElem?_set] at e ⊢
 by_cases hij:i=j
 · rw[if_pos hij] at e ⊢
   subst hij
   by_cases hl:i < ρ.length
   · rw[if_pos hl] at e
     cases e
     rw[if_pos (by rw[← R.len];exact hl)]
     exact⟨v,rfl,h⟩
   · rw[if_neg hl] at e;cases e
 · rw[if_neg hij] at e ⊢
   exact R.slot j y e
theorem OA.none (oa:OA K H M) {p:Addr}(h:H p=b9Z):M p=b9Z:=by
 cases e:M p with
 | none=>rfl
 | some o=>
   have:=oa p o e
   cases o with
   | l ds=>obtain⟨vs,q,_⟩:=this;rw[h] at q;cases q
   | d kvs=>obtain⟨vs,q,_⟩:=this;rw[h] at q;cases q
   | x C fs=>obtain⟨vs,q,_⟩:=this;rw[h] at q;cases q
theorem AW {p:Addr}{o:HO}(W:Addr->Prop) (h:H p=b9Z):Grow K W W H (upd H p o):=
 ⟨fun b u e _=>.inl (by rw[AM (B2 e h)];exact e),fun _ w=>.inl w⟩
theorem OA.grow (oa:OA K H M) (g:Grow K M.W M.W H H') (hk:∀a o,M a=some o->H' a=H a):OA K H' M:=fun a o e=>by
 have q:=oa a o e
 cases o with
 | l ds=>obtain⟨vs,q1,q2⟩:=q;exact⟨vs,by rw[hk a _ e];exact q1,q2.grow g⟩
 | d kvs=>obtain⟨vs,q1,q2⟩:=q;exact⟨vs,by rw[hk a _ e];exact q1,q2.grow g⟩
 | x C fs=>obtain⟨vs,q1,q2⟩:=q;exact⟨vs,by rw[hk a _ e];exact q1,q2.grow g⟩
theorem OA.new {p:Addr}{o:HO}(oa:OA K H M) (h:H p=b9Z):OA K (upd H p o) M:=oa.grow (AW _ h) fun a x e=>by
 rw[AM (by rintro rfl;rw[oa.none h] at e;cases e)]
theorem dF {p:Addr}{vs:List V}{ds:List PyData}(oa:OA K H M) (h:H p=b9Z) (hd:DVs K H M.W ds vs) :
   OA K (upd H p (.lst vs)) (M.put p (.l ds))/\Step K M (M.put p (.l ds)) H (upd H p (.lst vs)):=by
 have hM:=oa.none h
 have g:Grow K M.W (M.put p (.l ds)).W H (upd H p (.lst vs)):=⟨fun b u e _=>.inl (by rw[AM (B2 e h)];exact e),fun b w=>by
   by_cases hb:b=p
   · subst hb;exact .inr h
   · left;unfold Own.W at w ⊢;rw[yH hb] at w;exact w⟩
 refine⟨fun a o e=>?_,⟨g⟩⟩
 · by_cases ha:a=p
   · subst ha;rw[zU] at e;cases e;exact⟨vs,AK,hd.grow g⟩
   · rw[yH ha] at e
     have q:=oa a o e
     cases o with
     | l ds=>obtain⟨vs,q1,q2⟩:=q;exact⟨vs,by rw[AM ha];exact q1,q2.grow g⟩
     | d kvs=>obtain⟨vs,q1,q2⟩:=q;exact⟨vs,by rw[AM ha];exact q1,q2.grow g⟩
     | x C fs=>obtain⟨vs,q1,q2⟩:=q;exact⟨vs,by rw[AM ha];exact q1,q2.grow g⟩
theorem OE {p:Addr}{vs':List V}{ds':List PyData}{o:MO}(oa:OA K H M) (h:M p=some o) (hd:DVs K H M.W ds' vs') :
   OA K (upd H p (.lst vs')) (M.put p (.l ds'))/\Step K M (M.put p (.l ds')) H (upd H p (.lst vs')):=by
 have hw:∀b,(M.put p (.l ds')).W b->M.W b:=fun b w=>by
   unfold Own.W at w ⊢
   by_cases hb:b=p
   · subst hb;rw[h];simp
   · rw[yH hb] at w;exact w
 have g:Grow K M.W (M.put p (.l ds')).W H (upd H p (.lst vs')):=⟨fun b u e nw=>.inl (by
   rw[AM (by rintro rfl;exact nw (by unfold Own.W;rw[h];simp))];exact e),fun b w=>.inl (hw b w)⟩
 refine⟨fun a o e=>?_,⟨g⟩⟩
 · by_cases ha:a=p
   · subst ha;rw[zU] at e;cases e;exact⟨vs',AK,hd.grow g⟩
   · rw[yH ha] at e
     have q:=oa a o e
     cases o with
     | l ds=>obtain⟨vs,q1,q2⟩:=q;exact⟨vs,by rw[AM ha];exact q1,q2.grow g⟩
     | d kvs=>obtain⟨vs,q1,q2⟩:=q;exact⟨vs,by rw[AM ha];exact q1,q2.grow g⟩
     | x C fs=>obtain⟨vs,q1,q2⟩:=q;exact⟨vs,by rw[AM ha];exact q1,q2.grow g⟩
theorem BP (hs:M'.Sub M):Grow K M.W M'.W H H:=⟨fun _ _ e _=>.inl e,fun b w=>.inl (by
 unfold Own.W at w ⊢
 cases e:M' b with
 | none=>exact absurd e w
 | some o=>rw[hs b o e];simp)⟩
theorem OA.sub (oa:OA K H M) (hs:M'.Sub M):OA K H M':=fun a o e=>by
 have q:=oa a o (hs a o e)
 cases o with
 | l ds=>obtain⟨vs,q1,q2⟩:=q;exact⟨vs,q1,q2.grow (BP hs)⟩
 | d kvs=>obtain⟨vs,q1,q2⟩:=q;exact⟨vs,q1,q2.grow (BP hs)⟩
 | x C fs=>obtain⟨vs,q1,q2⟩:=q;exact⟨vs,q1,q2.grow (BP hs)⟩
theorem SI.sub (hs:M'.Sub M):∀{x:DS}{v:V},SI K H M x v->SI K H M' x v
 | .d _,_,h=>DV.grow (BP hs) h
 | .loc _,_,h=>h
 | .ty _,_,h=>h
 | .tl _ _,_,⟨b,vs,e,h1,h2⟩=>⟨b,vs,e,h1.grow (BP hs),h2.grow (BP hs)⟩
end
def DE (K:Frg) (t:TE) (ρ:List (Option DS)) (M:Own) (Q:DS->Own->Prop):Prop:=
 ∀(σ:St) (H:Hp) (QQ:VK),Rel K M ρ σ H->(∀v H' x M',OA K H' M'->SI K H' M' x v->Step K M M' H H'->Q x M'->QQ v H')->t σ H QQ
def DT (K:Frg) (t:TT) (ρ:List (Option DS)) (M:Own) (Q:Bool->Own->Prop):Prop:=
 ∀(σ:St) (H:Hp) (QQ:Bool->Hp->Prop),Rel K M ρ σ H->(∀b H' M',OA K H' M'->Step K M M' H H'->Q b M'->QQ b H')->t σ H QQ
def DA (K:Frg) (t:TA) (ρ:List (Option DS)) (M:Own) (Q:List DS->Own->Prop):Prop:=
 ∀(σ:St) (H:Hp) (QQ:List V->Hp->Prop),Rel K M ρ σ H->(∀vs H' xs M',OA K H' M'->SIs K H' M' xs vs->Step K M M' H H'->Q xs M'->QQ vs H')->t σ H QQ
def DP (K:Frg) (t:TO) (ρ:List (Option DS)) (M:Own) (Q:Option Int->Own->Prop):Prop:=
 ∀(σ:St) (H:Hp) (QQ:Option Int->Hp->Prop),Rel K M ρ σ H->(∀b H' M',OA K H' M'->Step K M M' H H'->Q b M'->QQ b H')->t σ H QQ
structure EndsD where
 nx:List (Option DS)->Own->Prop
 rt:DS->Own->Prop
 bk:List (Option DS)->Own->Prop:=fun _ _=>False
 ct:List (Option DS)->Own->Prop:=fun _ _=>False
def DSt (K:Frg) (t:TS) (ρ:List (Option DS)) (M:Own) (D:EndsD):Prop:=
 ∀(σ:St) (H:Hp) (E:Ends),Rel K M ρ σ H->(∀ρ' M' σ' H',Rel K M' ρ' σ' H'->Step K M M' H H'->D.nx ρ' M'->E.nx σ' H')->(∀v H' x M',OA K H' M'->SI K H' M' x v->Step K M M' H H'->D.rt x M'->E.rt v H') ->
   (∀ρ' M' σ' H',Rel K M' ρ' σ' H'->Step K M M' H H'->D.bk ρ' M'->E.bk σ' H')->(∀ρ' M' σ' H',Rel K M' ρ' σ' H'->Step K M M' H H'->D.ct ρ' M'->E.ct σ' H')->t E σ H
def D1 (K:Frg) (r:V->Hp->VK->Prop) (x:DS) (M:Own) (Q:DS->Own->Prop):Prop:=
 ∀(H:Hp) (v:V) (QQ:VK),OA K H M->SI K H M x v->(∀w H' z M',OA K H' M'->SI K H' M' z w->Step K M M' H H'->Q z M'->QQ w H')->r v H QQ
def D2 (K:Frg) (r:R2) (x y:DS) (M:Own) (Q:DS->Own->Prop):Prop:=
 ∀(H:Hp) (v u:V) (QQ:VK),OA K H M->SI K H M x v->SI K H M y u->(∀w H' z M',OA K H' M'->SI K H' M' z w->Step K M M' H H'->Q z M'->QQ w H')->r v u H QQ
def DR (K:Frg) (r:List V->Hp->VK->Prop) (xs:List DS) (M:Own) (Q:DS->Own->Prop):Prop:=
 ∀(H:Hp) (vs:List V) (QQ:VK),OA K H M->SIs K H M xs vs->(∀w H' z M',OA K H' M'->SI K H' M' z w->Step K M M' H H'->Q z M'->QQ w H')->r vs H QQ
def DM (K:Frg) (r:V->List V->Hp->VK->Prop) (x:DS) (xs:List DS) (M:Own) (Q:DS->Own->Prop):Prop:=
 ∀(H:Hp) (v:V) (vs:List V) (QQ:VK),OA K H M->SI K H M x v->SIs K H M xs vs->(∀w H' z M',OA K H' M'->SI K H' M' z w->Step K M M' H H'->Q z M'->QQ w H')->r v vs H QQ
def DSl (K:Frg) (r:V->Option Int->Option Int->Hp->VK->Prop) (x:DS) (lo hi:Option Int) (M:Own) (Q:DS->Own->Prop):Prop:=
 ∀(H:Hp) (v:V) (QQ:VK),OA K H M->SI K H M x v->(∀w H' z M',OA K H' M'->SI K H' M' z w->Step K M M' H H'->Q z M'->QQ w H')->r v lo hi H QQ
def DTy (K:Frg) (T:String) (x:DS) (M:Own):Prop:=∀(H:Hp) (v:V),OA K H M->SI K H M x v->tyV K T v H
section
variable {K:Frg}{ρ:List (Option DS)}{M:Own}{Q:DS->Own->Prop}{QB:Bool->Own->Prop}{ta tb tc:TE}{tA tB':TT}{r r':R2}
theorem dG {t:TE}{Q':DS->Own->Prop}(h:DE K t ρ M Q) (hq:∀x M',Q x M'->Q' x M'):DE K t ρ M Q':=fun σ H QQ R k=>h σ H QQ R fun v H' x M' a b c q=>k v H' x M' a b c (hq x M' q)
theorem vF {i:Nat}{x:DS}(e:ρ[i]?=some (some x)) (h:Q x M):DE K (oG i) ρ M Q:=fun σ H QQ R k=>by
 obtain⟨v,h1,h2⟩:=R.slot i x e
 exact⟨v,h1,k v H x M R.own h2 Step.refl h⟩
theorem vG {i:Int}(h:Q (.d (.int i)) M):DE K (tC (.int i)) ρ M Q:=fun σ H QQ R k=>k _ H (.d (.int i)) M R.own (by unfold SI DV;rfl) Step.refl h
theorem A0F {i:Bool}(h:Q (.d (.bool i)) M):DE K (tC (.bl i)) ρ M Q:=fun σ H QQ R k=>k _ H (.d (.bool i)) M R.own (by unfold SI DV;rfl) Step.refl h
theorem vH {i:Str}(h:Q (.d (.str i)) M):DE K (tC (.str i)) ρ M Q:=fun σ H QQ R k=>k _ H (.d (.str i)) M R.own (by unfold SI DV;rfl) Step.refl h
theorem vI (h:Q (.d .none) M):DE K (tC .non) ρ M Q:=fun σ H QQ R k=>k _ H (.d .none) M R.own (by unfold SI DV;rfl) Step.refl h
theorem A0G {n:String}(h:Q (.ty n) M):DE K (tC (.ty n)) ρ M Q:=fun σ H QQ R k=>k _ H (.ty n) M R.own rfl Step.refl h
theorem A0H (h:DE K ta ρ M fun x M1=>DE K tb ρ M1 fun y M2=>D2 K r x y M2 Q):DE K (tOp r ta tb) ρ M Q:=fun σ H QQ R k=>
 h σ H _ R fun v H1 x M1 o1 s1 t1 h1=>h1 σ H1 _ (R.step o1 t1) fun u H2 y M2 o2 s2 t2 h2=>h2 H2 v u QQ o2 (s1.step t2) s2 fun w H3 z M3 o3 s3 t3 q=>k w H3 z M3 o3 s3 ((t1.trans t2).trans t3) q
theorem A0I {r:V->Hp->VK->Prop}(h:DE K ta ρ M fun x M1=>D1 K r x M1 Q):DE K (tUn r ta) ρ M Q:=fun σ H QQ R k=>
 h σ H _ R fun v H1 x M1 o1 s1 t1 h1=>h1 H1 v QQ o1 s1 fun w H3 z M3 o3 s3 t3 q=>k w H3 z M3 o3 s3 (t1.trans t3) q
theorem k7 (h:DE K ta ρ M fun x M1=>DE K tb ρ M1 fun y M2=>D2 K r x y M2 fun z M3=>∃c,z = .d (.bool c)/\if c=true then DE K tc ρ M3 (fun w M4=>D2 K r' y w M4 Q) else Q (.d (.bool false)) M3) :
   DE K (aM r r' ta tb tc) ρ M Q:=fun σ H QQ R k=>
 h σ H _ R fun v H1 x M1 o1 s1 t1 h1=>h1 σ H1 _ (R.step o1 t1) fun u H2 y M2 o2 s2 t2 h2=>h2 H2 v u _ o2 (s1.step t2) s2 fun w H3 z M3 o3 s3 t3 q=>by
   obtain⟨c,rfl,q⟩:=q
   unfold SI DV at s3
   refine⟨c,s3,?_⟩
   cases c with
   | false=>
     rw[if_neg nft] at q ⊢
     exact k _ H3 _ M3 o3 (by unfold SI DV;rfl) ((t1.trans t2).trans t3) q
   | true=>
     rw[if_pos rfl] at q ⊢
     exact q σ H3 _ (R.step o3 ((t1.trans t2).trans t3)) fun w4 H4 z4 M4 o4 s4 t4 h4=>h4 H4 u w4 QQ o4 (s2.step (t3.trans t4)) s4 fun w5 H5 z5 M5 o5 s5 t5 q5=>k w5 H5 z5 M5 o5 s5 ((((t1.trans t2).trans t3).trans t4).trans t5) q5
theorem pE (h:DE K ta ρ M fun x M1=>∃c,x = .d (.bool c)/\QB c M1):DT K (jI ta) ρ M QB:=fun σ H QQ R k=>
 h σ H _ R fun v H1 x M1 o1 s1 t1 h1=>by
   obtain⟨c,rfl,q⟩:=h1
   unfold SI DV at s1
   exact⟨c,s1,k c H1 M1 o1 t1 q⟩
theorem A0q (h:DE K ta ρ M fun x M1=>∃c,x = .d (.bool c)/\QB c M1):DT K (L2.tB ta) ρ M QB:=fun σ H QQ R k=>
 h σ H _ R fun v H1 x M1 o1 s1 t1 h1=>by
   obtain⟨c,rfl,q⟩:=h1
   unfold SI DV at s1
   exact⟨c,s1,k c H1 M1 o1 t1 q⟩
theorem vJ (h:DT K tA ρ M fun c M1=>if c=true then DT K tB' ρ M1 QB else QB false M1):DT K (xL tA tB') ρ M QB:=fun σ H QQ R k=>
 h σ H _ R fun c H1 M1 o1 t1 h1=>by
   cases c with
   | false=>rw[if_neg nft] at h1 ⊢;exact k _ H1 M1 o1 t1 h1
   | true=>rw[if_pos rfl] at h1 ⊢;exact h1 σ H1 QQ (R.step o1 t1) fun b H2 M2 o2 t2 q=>k b H2 M2 o2 (t1.trans t2) q
theorem A0J (h:DT K tA ρ M fun c M1=>if c=true then QB true M1 else DT K tB' ρ M1 QB):DT K (tOr tA tB') ρ M QB:=fun σ H QQ R k=>
 h σ H _ R fun c H1 M1 o1 t1 h1=>by
   cases c with
   | true=>rw[if_pos rfl] at h1 ⊢;exact k _ H1 M1 o1 t1 h1
   | false=>rw[if_neg nft] at h1 ⊢;exact h1 σ H1 QQ (R.step o1 t1) fun b H2 M2 o2 t2 q=>k b H2 M2 o2 (t1.trans t2) q
theorem vK (h:DT K tA ρ M fun c M1=>QB (!c) M1):DT K (xN tA) ρ M QB:=fun σ H QQ R k=>h σ H _ R fun c H1 M1 o1 t1 h1=>k _ H1 M1 o1 t1 h1
theorem vL (h:QB true M):DT K A0E ρ M QB:=fun σ H QQ R k=>k true H M R.own Step.refl h
theorem vM (h:DE K ta ρ M fun x M1=>∃c,x = .d (.bool c)/\if c=true then DE K tb ρ M1 Q else Q (.d (.bool false)) M1):DE K (sP ta tb) ρ M Q:=fun σ H QQ R k=>
 h σ H _ R fun v H1 x M1 o1 s1 t1 h1=>by
   obtain⟨c,rfl,q⟩:=h1
   unfold SI DV at s1
   refine⟨c,s1,?_⟩
   cases c with
   | false=>rw[if_neg nft] at q ⊢;exact k _ H1 _ M1 o1 (by unfold SI DV;rfl) t1 q
   | true=>rw[if_pos rfl] at q ⊢;exact q σ H1 QQ (R.step o1 t1) fun w H2 z M2 o2 s2 t2 q=>k w H2 z M2 o2 s2 (t1.trans t2) q
theorem A0K (h:DE K ta ρ M fun x M1=>∃c,x = .d (.bool c)/\if c=true then Q (.d (.bool true)) M1 else DE K tb ρ M1 Q):DE K (xO ta tb) ρ M Q:=fun σ H QQ R k=>
 h σ H _ R fun v H1 x M1 o1 s1 t1 h1=>by
   obtain⟨c,rfl,q⟩:=h1
   unfold SI DV at s1
   refine⟨c,s1,?_⟩
   cases c with
   | true=>rw[if_pos rfl] at q ⊢;exact k _ H1 _ M1 o1 (by unfold SI DV;rfl) t1 q
   | false=>rw[if_neg nft] at q ⊢;exact q σ H1 QQ (R.step o1 t1) fun w H2 z M2 o2 s2 t2 q=>k w H2 z M2 o2 s2 (t1.trans t2) q
theorem vN (h:DE K ta ρ M fun x M1=>∃c,x = .d (.bool c)/\Q (.d (.bool (!c))) M1):DE K (sQ ta) ρ M Q:=fun σ H QQ R k=>
 h σ H _ R fun v H1 x M1 o1 s1 t1 h1=>by
   obtain⟨c,rfl,q⟩:=h1
   unfold SI DV at s1
   exact⟨c,s1,k _ H1 _ M1 o1 (by unfold SI DV;rfl) t1 q⟩
theorem A0L (h:DT K tA ρ M fun c M1=>if c=true then DE K ta ρ M1 Q else DE K tb ρ M1 Q):DE K (tIf tA ta tb) ρ M Q:=fun σ H QQ R k=>
 h σ H _ R fun c H1 M1 o1 t1 h1=>by
   cases c with
   | true=>rw[if_pos rfl] at h1 ⊢;exact h1 σ H1 QQ (R.step o1 t1) fun w H2 z M2 o2 s2 t2 q=>k w H2 z M2 o2 s2 (t1.trans t2) q
   | false=>rw[if_neg nft] at h1 ⊢;exact h1 σ H1 QQ (R.step o1 t1) fun w H2 z M2 o2 s2 t2 q=>k w H2 z M2 o2 s2 (t1.trans t2) q
variable {QL:List DS->Own->Prop}{tl:TA}
theorem vO (h:QL [] M):DA K z8 ρ M QL:=fun σ H QQ R k=>k [] H [] M R.own rfl Step.refl h
theorem pF (h:DE K ta ρ M fun x M1=>DA K tl ρ M1 fun xs M2=>QL (x::xs) M2):DA K (sY ta tl) ρ M QL:=fun σ H QQ R k=>
 h σ H _ R fun v H1 x M1 o1 s1 t1 h1=>h1 σ H1 _ (R.step o1 t1) fun vs H2 xs M2 o2 s2 t2 q=>k (v::vs) H2 (x::xs) M2 o2 ⟨v,vs,rfl,s1.step t2,s2⟩ (t1.trans t2) q
def TL:List DS->Option (List PyData)
 | []=>some []
 | .d x::r=>match TL r with
   | some l=>some (x::l)
   | none=>none
 | .loc _::_=>none
 | .ty _::_=>none
 | .tl _ _::_=>none
theorem SIs.data {H:Hp}:∀{xs:List DS}{ds:List PyData}{vs:List V},TL xs=some ds->SIs K H M xs vs->DVs K H M.W ds vs
 | [],ds,vs,e,h=>by cases e;cases h;exact DVs.nil
 | .d x::r,ds,vs,e,⟨v,q,e2,h1,h2⟩=>by
   cases e3:TL r with
   | none=>rw[TL,e3] at e;cases e
   | some es=>
     rw[TL,e3] at e;cases e
     subst e2
     exact DVs.cons h1 (SIs.data e3 h2)
 | .loc _::_,ds,vs,e,_=>by cases e
 | .ty _::_,ds,vs,e,_=>by cases e
 | .tl _ _::_,ds,vs,e,_=>by cases e
theorem SIs.length {H:Hp}:∀{xs:List DS}{vs:List V},SIs K H M xs vs->vs.length=xs.length
 | [],vs,h=>by cases h;rfl
 | _::r,vs,⟨v,q,e2,h1,h2⟩=>by subst e2;simp[SIs.length h2]
theorem vP (h:DA K tl ρ M fun xs M1=>∃ds,TL xs=some ds/\ds.length<=sizeLine/\Q (.d (.tuple ds)) M1):DE K (uN tl) ρ M Q:=fun σ H QQ R k=>
 h σ H _ R fun vs H1 xs M1 o1 s1 t1 h1=>by
   obtain⟨ds,e,hz,q⟩:=h1
   have hd:=s1.data e
   refine⟨by rw[hd.length];exact hz,fun p hp=>?_⟩
   have g:Grow K M1.W M1.W H1 (upd H1 p (.tup vs)):=AW _ hp
   refine k _ _ (.d (.tuple ds)) M1 (o1.new hp) ?_ (t1.trans ⟨g⟩) q
   unfold SI DV
   exact⟨p,vs,rfl,.inl ⟨fun w=>w (o1.none hp),.inl AK⟩,hd.grow g⟩
theorem D0 (h:DA K tl ρ M fun xs M1=>∃ds,TL xs=some ds/\ds.length<=sizeLine/\Q (.d (.list ds)) M1):DE K (uO tl) ρ M Q:=fun σ H QQ R k=>
 h σ H _ R fun vs H1 xs M1 o1 s1 t1 h1=>by
   obtain⟨ds,e,hz,q⟩:=h1
   have hd:=s1.data e
   refine⟨by rw[hd.length];exact hz,fun p hp=>?_⟩
   have g:Grow K M1.W M1.W H1 (upd H1 p (.lst vs)):=AW _ hp
   refine k _ _ (.d (.list ds)) M1 (o1.new hp) ?_ (t1.trans ⟨g⟩) q
   unfold SI DV
   exact⟨p,vs,rfl,.inl ⟨fun w=>w (o1.none hp),.inl AK⟩,hd.grow g⟩
theorem MS (h:DA K tl ρ M fun xs M1=>∃ds,TL xs=some ds/\ds.length<=sizeLine/\∀p,M1 p=none->Q (.loc p) (M1.put p (.l ds))):DE K (uO tl) ρ M Q:=fun σ H QQ R k=>
 h σ H _ R fun vs H1 xs M1 o1 s1 t1 h1=>by
   obtain⟨ds,e,hz,q⟩:=h1
   have hd:=s1.data e
   refine⟨by rw[hd.length];exact hz,fun p hp=>?_⟩
   obtain⟨a,b⟩:=dF o1 hp hd
   exact k _ _ (.loc p) _ a rfl (t1.trans b) (q p (o1.none hp))
theorem A0M {r:List V->Hp->VK->Prop}(h:DA K tl ρ M fun xs M1=>DR K r xs M1 Q):DE K (tCB r tl) ρ M Q:=fun σ H QQ R k=>
 h σ H _ R fun vs H1 xs M1 o1 s1 t1 h1=>h1 H1 vs QQ o1 s1 fun w H2 z M2 o2 s2 t2 q=>k w H2 z M2 o2 s2 (t1.trans t2) q
structure FSp where
 pre:List DS->Own->Prop
 post:List DS->Own->DS->Own->Prop
def spD (K:Frg) (n:Nat) (S:FSp):Sp:=fun vs H Q _=>∃xs M,xs.length=n/\OA K H M/\SIs K H M xs vs/\S.pre xs M/\∀x M' v H',S.post xs M x M'->Step K M M' H H'->OA K H' M'->SI K H' M' x v->Q v H'
theorem pG {n:Nat}{S:FSp}:∀vs H Q E,spD K n S vs H Q E->vs.length=n:=fun vs H Q E ⟨xs,M,hl,_,h,_⟩=>by rw[h.length,hl]
theorem pH {n:Nat}{S:FSp}{E:XK}(h:DA K tl ρ M fun xs M1=>xs.length=n/\S.pre xs M1/\∀x M',S.post xs M1 x M'->Q x M'):DE K (cX (spD K n S) [] E tl) ρ M Q:=fun σ H QQ R k=>
 h σ H _ R fun vs H1 xs M1 o1 s1 t1 ⟨h0,h1,h2⟩=>by
   show spD K n S (vs++[]) H1 QQ E
   rw[a2W]
   exact⟨xs,M1,h0,o1,s1,h1,fun x M' v H' p st oa si=>k v H' x M' oa si (t1.trans st) (h2 x M' p)⟩
theorem dH {T:String}{r:V->List V->Hp->VK->Prop}(h:DE K ta ρ M fun x M1=>DTy K T x M1/\DA K tl ρ M1 fun xs M2=>DM K r x xs M2 Q):DE K (tBM K T r ta tl) ρ M Q:=fun σ H QQ R k=>
 h σ H _ R fun v H1 x M1 o1 s1 t1 ⟨h0,h1⟩=>⟨h0 H1 v o1 s1,h1 σ H1 _ (R.step o1 t1) fun vs H2 xs M2 o2 s2 t2 h2=>h2 H2 v vs QQ o2 (s1.step t2) s2 fun w H3 z M3 o3 s3 t3 q=>k w H3 z M3 o3 s3 ((t1.trans t2).trans t3) q⟩
theorem pI {QP:Option Int->Own->Prop}(h:QP none M):DP K cZ ρ M QP:=fun σ H QQ R k=>k _ H M R.own Step.refl h
theorem pJ {QP:Option Int->Own->Prop}(h:DE K ta ρ M fun x M1=>∃i,x = .d (.int i)/\QP (some i) M1):DP K (sZ ta) ρ M QP:=fun σ H QQ R k=>
 h σ H _ R fun v H1 x M1 o1 s1 t1 h1=>by
   obtain⟨i,rfl,q⟩:=h1
   unfold SI DV at s1
   exact⟨i,s1,k _ H1 M1 o1 t1 q⟩
theorem A0N {r:V->Option Int->Option Int->Hp->VK->Prop}{tl th:TO}(h:DE K ta ρ M fun x M1=>DP K tl ρ M1 fun lo M2=>DP K th ρ M2 fun hi M3=>DSl K r x lo hi M3 Q):DE K (tSl r ta tl th) ρ M Q:=fun σ H QQ R k=>
 h σ H _ R fun v H1 x M1 o1 s1 t1 h1=>h1 σ H1 _ (R.step o1 t1) fun lo H2 M2 o2 t2 h2=>h2 σ H2 _ (R.step o2 (t1.trans t2)) fun hi H3 M3 o3 t3 h3=>h3 H3 v QQ o3 (s1.step (t2.trans t3)) fun w H4 z M4 o4 s4 t4 q=>k w H4 z M4 o4 s4 (((t1.trans t2).trans t3).trans t4) q
variable {D:EndsD}{t u:TS}
theorem dI (h:D.nx ρ M):DSt K sR ρ M D:=fun σ H E R k1 _ _ _=>k1 ρ M σ H R Step.refl h
theorem aU (h:DE K ta ρ M D.rt):DSt K (xW ta) ρ M D:=fun σ H E R _ k2 _ _=>h σ H E.rt R fun v H' x M' a b c q=>k2 v H' x M' a b c q
theorem dJ (h:DE K ta ρ M fun _ M1=>D.nx ρ M1):DSt K (sS ta) ρ M D:=fun σ H E R k1 _ _ _=>h σ H _ R fun v H' x M' a b c q=>k1 ρ M' σ H' (R.step a c) c q
theorem k8 {i:Nat}(h:DE K ta ρ M fun x M1=>D.nx (ρ.set i (some x)) M1):DSt K (jG ta (MP i)) ρ M D:=fun σ H E R k1 _ _ _=>
 h σ H _ R fun v H' x M' a b c q=>k1 _ M' _ H' ((R.step a c).set b i) c q
theorem dL {i:Nat}(h:DE K ta ρ M fun x M1=>D.nx (ρ.set i (some x)) M1):DSt K (fun D σ H=>ta σ H fun v H'=>D.nx (σ.set i (some v)) H') ρ M D:=fun σ H E R k1 _ _ _=>
 h σ H _ R fun v H' x M' a b c q=>k1 _ M' _ H' ((R.step a c).set b i) c q
theorem k9 (h:DSt K t ρ M { D with nx:=fun ρ1 M1=>DSt K u ρ1 M1 D }):DSt K (u8 t u) ρ M D:=fun σ H E R k1 k2 k3 k4=>by
 refine h σ H { E with nx:=fun σ' H'=>u E σ' H' } R (fun ρ1 M1 σ1 H1 R1 t1 q=>?_) k2 k3 k4
 exact q σ1 H1 E R1 (fun a b c d e f g=>k1 a b c d e (t1.trans f) g) (fun a b c d e f g q=>k2 a b c d e f (t1.trans g) q) (fun a b c d e f g=>k3 a b c d e (t1.trans f) g) (fun a b c d e f g=>k4 a b c d e (t1.trans f) g)
theorem A0O (h:DT K tA ρ M fun c M1=>if c=true then DSt K t ρ M1 D else DSt K u ρ M1 D):DSt K (y4 tA t u) ρ M D:=fun σ H E R k1 k2 k3 k4=>
 h σ H _ R fun c H1 M1 o1 t1 h1=>by
   have go:∀{w:TS},DSt K w ρ M1 D->w E σ H1:=fun q=>q σ H1 E (R.step o1 t1) (fun a b c d e f g=>k1 a b c d e (t1.trans f) g) (fun a b c d e f g q=>k2 a b c d e f (t1.trans g) q) (fun a b c d e f g=>k3 a b c d e (t1.trans f) g) (fun a b c d e f g=>k4 a b c d e (t1.trans f) g)
   cases c with
   | true=>rw[if_pos rfl] at h1 ⊢;exact go h1
   | false=>rw[if_neg nft] at h1 ⊢;exact go h1
theorem pK {D':EndsD}(h:DSt K t ρ M D) (h1:∀ρ' M',D.nx ρ' M'->D'.nx ρ' M') (h2:∀x M',D.rt x M'->D'.rt x M') (h3:∀ρ' M',D.bk ρ' M'->D'.bk ρ' M') (h4:∀ρ' M',D.ct ρ' M'->D'.ct ρ' M'):DSt K t ρ M D':=
 fun σ H E R k1 k2 k3 k4=>h σ H E R (fun a b c d e f g=>k1 a b c d e f (h1 _ _ g)) (fun a b c d e f g q=>k2 a b c d e f g (h2 _ _ q)) (fun a b c d e f g=>k3 a b c d e f (h3 _ _ g)) (fun a b c d e f g=>k4 a b c d e f (h4 _ _ g))
theorem UK {i:Nat}{a:Addr}{ds:List PyData}(e:ρ[i]?=some (some (.loc a))) (m:M a=some (.l ds)) (h:DSt K t (ρ.set i (some (.d (.list ds)))) (M.del a) D):DSt K t ρ M D:=fun σ H E R k1 k2 k3 k4=>by
 have hs:(M.del a).Sub M:=fun b o q=>by
   unfold Own.del at q
   by_cases hb:b=a
   · rw[if_pos hb] at q;cases q
   · rw[if_neg hb] at q;exact q
 have st:Step K M (M.del a) H H:=⟨BP hs⟩
 obtain⟨v,e1,e2⟩:=R.slot i _ e
 obtain⟨vs,q1,q2⟩:=R.own a _ m
 have R1:Rel K (M.del a) ρ σ H:=R.step (R.own.sub hs) st
 have R2:=R1.set (x:=.d (.list ds)) (v:=v) (by
   unfold SI DV
   refine⟨a,vs,e2,.inl ⟨fun w=>w (by unfold Own.del;rw[if_pos rfl]),.inl q1⟩,q2.grow (BP hs)⟩) i
 have e3:σ.set i (some v)=σ:=by
   apply b9W
   intro j
   rw[List.getElem?_set]
   by_cases hij:i=j
   · subst hij
     rw[if_pos rfl,e1]
     split
     · rfl
     · rename_i hl
       rw[a0V (by omega)] at e1;cases e1
   · rw[if_neg hij]
 rw[e3] at R2
 exact h σ H E R2 (fun a b c d e f g=>k1 a b c d e (st.trans f) g) (fun a b c d e f g q=>k2 a b c d e f (st.trans g) q) (fun a b c d e f g=>k3 a b c d e (st.trans f) g) (fun a b c d e f g=>k4 a b c d e (st.trans f) g)
end
end DL
namespace DL
open PySem PySem.Spec L2
section
variable {K:Frg}{ρ:List (Option DS)}{M:Own}{Q:DS->Own->Prop}{H:Hp}
theorem BN {i:Int}{v:V}(h:SI K H M (.d (.int i)) v):v = .int i:=by unfold SI DV at h;exact h
theorem tF {i:Bool}{v:V}(h:SI K H M (.d (.bool i)) v):v = .bl i:=by unfold SI DV at h;exact h
theorem BA {i:Str}{v:V}(h:SI K H M (.d (.str i)) v):v = .str i:=by unfold SI DV at h;exact h
theorem kA {v:V}(h:SI K H M (.d .none) v):v = .non:=by unfold SI DV at h;exact h
theorem CS {i:Int}:SI K H M (.d (.int i)) (.int i):=by unfold SI DV;rfl
theorem AI {i:Bool}:SI K H M (.d (.bool i)) (.bl i):=by unfold SI DV;rfl
theorem HI {i:Str}:SI K H M (.d (.str i)) (.str i):=by unfold SI DV;rfl
theorem A0P {g:Int->Int->Int}{i j:Int}(q:Q (.d (.int (g i j))) M):D2 K (rI0 fun i j=>.int (g i j)) (.d (.int i)) (.d (.int j)) M Q:=fun H v u QQ oa s1 s2 k=>by
 rw[BN s1,BN s2];exact⟨i,j,rfl,rfl,k _ H _ M oa CS Step.refl q⟩
theorem A0r {g:Int->Int->Bool}{i j:Int}(q:Q (.d (.bool (g i j))) M):D2 K (rI0 fun i j=>.bl (g i j)) (.d (.int i)) (.d (.int j)) M Q:=fun H v u QQ oa s1 s2 k=>by
 rw[BN s1,BN s2];exact⟨i,j,rfl,rfl,k _ H _ M oa AI Step.refl q⟩
theorem A0Q {C:Int->Int->Prop}{g:Int->Int->Int}{i j:Int}(c:C i j) (q:Q (.d (.int (g i j))) M):D2 K (rI C fun i j=>.int (g i j)) (.d (.int i)) (.d (.int j)) M Q:=fun H v u QQ oa s1 s2 k=>by
 rw[BN s1,BN s2];exact⟨i,j,rfl,rfl,c,k _ H _ M oa CS Step.refl q⟩
theorem A0s {g:Int->Int}{i:Int}(q:Q (.d (.int (g i))) M):D1 K (rU fun i=>.int (g i)) (.d (.int i)) M Q:=fun H v QQ oa s1 k=>by
 rw[BN s1];exact⟨i,rfl,k _ H _ M oa CS Step.refl q⟩
theorem pL {i j:Str}(hz:i.length+j.length<=sizeLine) (q:Q (.d (.str (i++j))) M) :
   D2 K (fun x y H Q=>∃i j,x = .str i/\y = .str j/\i.length+j.length<=sizeLine/\Q (.str (i++j)) H) (.d (.str i)) (.d (.str j)) M Q:=fun H v u QQ oa s1 s2 k=>by
 rw[BA s1,BA s2];exact⟨i,j,rfl,rfl,hz,k _ H _ M oa HI Step.refl q⟩
theorem vQ {i j:Str}(q:Q (.d (.bool (!(a5J j i 0 j.length 1).isEmpty))) M) :
   D2 K (fun x y H Q=>∃i j,x = .str i/\y = .str j/\Q (.bl (!(a5J j i 0 j.length 1).isEmpty)) H) (.d (.str i)) (.d (.str j)) M Q:=fun H v u QQ oa s1 s2 k=>by
 rw[BA s1,BA s2];exact⟨i,j,rfl,rfl,k _ H _ M oa AI Step.refl q⟩
theorem AY {neg:Bool}{a b:PyData}(ha:zH a=true) (hb:zH b=true) (q:Q (.d (.bool (if neg then !a0X a b else a0X a b))) M):D2 K (gD K neg) (.d a) (.d b) M Q:=fun H v u QQ oa s1 s2 k=>
 ⟨M.W,a,b,s1,s2,ha,hb,k _ H _ M oa AI Step.refl q⟩
theorem XY (x:Str) (ys:List Str):inV (.str x) (ys.map V.str)=decide (x∈ys):=by
 unfold inV
 rw[a3Z,a5V,decide_eq_true_iff]
 constructor
 · rintro⟨y,hy,e⟩
   obtain⟨z,hz,rfl⟩:=zL.mp hy
   have:z=x:=by simpa [eqV] using e
   subst this;exact hz
 · intro h
   exact⟨.str x,zL.mpr ⟨x,h,rfl⟩,by simp[eqV]⟩
theorem vR {neg:Bool}{x:Str}{ys:List Str}(q:Q (.d (.bool (if neg then !decide (x∈ys) else decide (x∈ys)))) M):D2 K (rIn K neg) (.d (.str x)) (.d (.list (ys.map .str))) M Q:=fun H v u QQ oa s1 s2 k=>by
 rw[BA s1]
 unfold SI DV at s2
 obtain⟨a,vs,rfl,hl,hd⟩:=s2
 have e:=RD hd
 subst e
 exact⟨a,_,rfl,.inl hl.sq,rfl,by simp[L4],k _ H (.d (.bool (if neg then !decide (x∈ys) else decide (x∈ys)))) M oa (by rw[XY];exact AI) Step.refl q⟩
theorem aV {W:Addr->Prop}{ds:List PyData}{vs:List V}{i:Int}{d:PyData}(h:DVs K H W ds vs) (e:atI ds i=some d):∃v,atI vs i=some v/\DV K H W d v:=by
 unfold atI at e ⊢
 rw[h.length]
 cases hx:ixN ds.length i with
 | none=>rw[hx] at e;cases e
 | some j=>rw[hx] at e;simpa using h.get' (by simpa using e)
theorem vT {ds:List PyData}{i:Int}{d:PyData}(e:atI ds i=some d) (q:Q (.d d) M):D2 K (oU K) (.d (.list ds)) (.d (.int i)) M Q:=fun H v u QQ oa s1 s2 k=>by
 rw[BN s2]
 unfold SI DV at s1
 obtain⟨a,vs,rfl,hl,hd⟩:=s1
 obtain⟨w,h1,h2⟩:=aV hd e
 exact⟨a,vs,i,w,rfl,rfl,hl.sq,h1,k _ H (.d d) M oa h2 Step.refl q⟩
theorem vU {ds:List PyData}{i:Int}{d:PyData}(e:atI ds i=some d) (q:Q (.d d) M):D2 K (uU K) (.d (.tuple ds)) (.d (.int i)) M Q:=fun H v u QQ oa s1 s2 k=>by
 rw[BN s2]
 unfold SI DV at s1
 obtain⟨a,vs,rfl,hl,hd⟩:=s1
 obtain⟨w,h1,h2⟩:=aV hd e
 exact⟨a,vs,i,w,rfl,rfl,hl.sq,h1,k _ H (.d d) M oa h2 Step.refl q⟩
theorem vV {a:Addr}{ds:List PyData}{i:Int}{d:PyData}(m:M a=some (.l ds)) (e:atI ds i=some d) (q:Q (.d d) M):D2 K (oU K) (.loc a) (.d (.int i)) M Q:=fun H v u QQ oa s1 s2 k=>by
 rw[BN s2]
 unfold SI at s1
 subst s1
 obtain⟨vs,h0,hd⟩:=oa a _ m
 obtain⟨w,h1,h2⟩:=aV hd e
 exact⟨a,vs,i,w,rfl,rfl,SqL.of h0,h1,k _ H (.d d) M oa h2 Step.refl q⟩
theorem vW {z:Str}{i:Int}{c:Nat}(hz:z.length<=sizeLine) (e:atI z.cps.toList i=some c) (q:Q (.d (.str ⟨#[c]⟩)) M):D2 K uV (.d (.str z)) (.d (.int i)) M Q:=fun H v u QQ oa s1 s2 k=>by
 rw[BN s2,BA s1]
 exact⟨z,i,c,rfl,rfl,hz,e,k _ H _ M oa HI Step.refl q⟩
theorem FW {r r':R2}{x y:DS}(h:D2 K r x y M Q):D2 K (fun x y H Q=>r x y H Q∨r' x y H Q) x y M Q:=fun H v u QQ oa s1 s2 k=>.inl (h H v u QQ oa s1 s2 k)
theorem ID {r r':R2}{x y:DS}(h:D2 K r' x y M Q):D2 K (fun x y H Q=>r x y H Q∨r' x y H Q) x y M Q:=fun H v u QQ oa s1 s2 k=>.inr (h H v u QQ oa s1 s2 k)
theorem vX {as bs:List PyData}(hz:as.length+bs.length<=sizeLine) (q:Q (.d (.list (as++bs))) M):D2 K (fun x y H Q=>∃a b xs ys,x = .ref a/\y = .ref b/\SqL K H a xs/\SqL K H b ys/\xs.length+ys.length<=sizeLine/\∀p,H p=none->Q (.ref p) (upd H p (.lst (xs++ys)))) (.d (.list as)) (.d (.list bs)) M Q:=fun H v u QQ oa s1 s2 k=>by
 unfold SI DV at s1 s2
 obtain⟨a,vs,rfl,hl,hd⟩:=s1
 obtain⟨b,us,rfl,hl2,hd2⟩:=s2
 refine⟨a,b,vs,us,rfl,rfl,hl.sq,hl2.sq,by rw[hd.length,hd2.length];exact hz,fun p hp=>?_⟩
 have g:Grow K M.W M.W H (upd H p (.lst (vs++us))):=AW _ hp
 refine k _ _ (.d (.list (as++bs))) M (oa.new hp) ?_ ⟨g⟩ q
 unfold SI DV
 exact⟨p,_,rfl,.inl ⟨fun w=>w (oa.none hp),.inl AK⟩,(hd.append hd2).grow g⟩
theorem pM {z:Str}(hz:z.length<=sizeLine) (q:Q (.d (.int z.length)) M):DR K (fun xs H Q=>∃x n,xs=[x]/\jL K x H n/\Q (.int (n:Nat)) H) [.d (.str z)] M Q:=fun H vs QQ oa s k=>by
 obtain⟨v,r,rfl,h1,h2⟩:=s
 cases h2
 rw[BA h1]
 exact⟨_,_,rfl,⟨hz,rfl⟩,k _ H _ M oa CS Step.refl q⟩
theorem pN {ds:List PyData}(q:Q (.d (.int ds.length)) M):DR K (fun xs H Q=>∃x n,xs=[x]/\jL K x H n/\Q (.int (n:Nat)) H) [.d (.list ds)] M Q:=fun H vs QQ oa s k=>by
 obtain⟨v,r,rfl,h1,h2⟩:=s
 cases h2
 unfold SI DV at h1
 obtain⟨a,vs,rfl,hl,hd⟩:=h1
 exact⟨_,_,rfl,.inl ⟨vs,hl.sq,rfl⟩,k _ H (.d (.int ds.length)) M oa (by rw[hd.length];exact CS) Step.refl q⟩
theorem pO {ds:List PyData}(q:Q (.d (.int ds.length)) M):DR K (fun xs H Q=>∃x n,xs=[x]/\jL K x H n/\Q (.int (n:Nat)) H) [.d (.tuple ds)] M Q:=fun H vs QQ oa s k=>by
 obtain⟨v,r,rfl,h1,h2⟩:=s
 cases h2
 unfold SI DV at h1
 obtain⟨a,vs,rfl,hl,hd⟩:=h1
 exact⟨_,_,rfl,.inr ⟨vs,hl.sq,rfl⟩,k _ H (.d (.int ds.length)) M oa (by rw[hd.length];exact CS) Step.refl q⟩
theorem vY {bs:List Bool}(q:Q (.d (.bool (bs.all id))) M):DR K (fun xs H Q=>∃(p:Addr) (bs:List Bool),xs=[.ref p]/\SqL K H p (bs.map V.bl)/\Q (.bl (bs.all id)) H) [.d (.list (bs.map .bool))] M Q:=fun H vs QQ oa s k=>by
 obtain⟨v,r,rfl,h1,h2⟩:=s
 cases h2
 unfold SI DV at h1
 obtain⟨a,vs,rfl,hl,hd⟩:=h1
 rw[OD hd] at hl
 exact⟨a,bs,rfl,hl.sq,k _ H _ M oa AI Step.refl q⟩
theorem vZ {bs:List Bool}(q:Q (.d (.bool (bs.any id))) M):DR K (fun xs H Q=>∃(p:Addr) (bs:List Bool),xs=[.ref p]/\SqL K H p (bs.map V.bl)/\Q (.bl (bs.any id)) H) [.d (.list (bs.map .bool))] M Q:=fun H vs QQ oa s k=>by
 obtain⟨v,r,rfl,h1,h2⟩:=s
 cases h2
 unfold SI DV at h1
 obtain⟨a,vs,rfl,hl,hd⟩:=h1
 rw[OD hd] at hl
 exact⟨a,bs,rfl,hl.sq,k _ H _ M oa AI Step.refl q⟩
theorem pP {z:Str}:DTy K "str" (.d (.str z)) M:=fun H v _ s=>by rw[BA s];exact rfl
theorem VU {a:Addr}{ds:List PyData}(m:M a=some (.l ds)):DTy K "list" (.loc a) M:=fun H v oa s=>by
 unfold SI at s
 subst s
 obtain⟨vs,h0,hd⟩:=oa a _ m
 exact .inl ⟨rfl,vs,SqL.of h0⟩
theorem OF {a:Addr}{ds:List PyData}{d:PyData}(m:M a=some (.l ds)) (hz:ds.length < sizeLine) (q:Q (.d .none) (M.put a (.l (ds++[d])))):DM K VN (.loc a) [.d d] M Q:=fun H v vs QQ oa s1 s2 k=>by
 obtain⟨u,r,rfl,h1,h2⟩:=s2
 cases h2
 unfold SI at s1
 subst s1
 obtain⟨us,h0,hd⟩:=oa a _ m
 obtain⟨x,y⟩:=OE oa m (hd.append (DVs.cons h1 DVs.nil))
 exact⟨a,us,u,rfl,rfl,h0,by rw[hd.length];exact hz,k _ _ (.d .none) _ x (by unfold SI DV;rfl) y q⟩
theorem pQ {z:Str}{lo hi:Option Int}(hz:z.length<=sizeLine) (q:Q (.d (.str (a1X z lo hi))) M):DSl K vB (.d (.str z)) lo hi M Q:=fun H v QQ oa s1 k=>by
 rw[BA s1]
 exact⟨z,rfl,hz,k _ H _ M oa HI Step.refl q⟩
def EJ (xs:List PyData) (lo hi:Option Int):List PyData:=(xs.drop (HT.sIx xs.length 0 lo)).take (HT.sIx xs.length xs.length hi - HT.sIx xs.length 0 lo)
theorem kB {ds:List PyData}{lo hi:Option Int}(q:Q (.d (.list (EJ ds lo hi))) M):DSl K (uY K) (.d (.list ds)) lo hi M Q:=fun H v QQ oa s1 k=>by
 unfold SI DV at s1
 obtain⟨a,vs,rfl,hl,hd⟩:=s1
 refine⟨a,vs,rfl,hl.sq,fun p hp=>?_⟩
 have g:Grow K M.W M.W H (upd H p (.lst (LU vs lo hi))):=AW _ hp
 have key:DVs K H M.W (EJ ds lo hi) (LU vs lo hi):=by
   unfold EJ LU
   rw[hd.length]
   exact(hd.drop _).take _
 refine k _ _ (.d (.list (EJ ds lo hi))) M (oa.new hp) ?_ ⟨g⟩ q
 unfold SI DV
 exact⟨p,_,rfl,.inl ⟨fun w=>w (oa.none hp),.inl AK⟩,key.grow g⟩
end
end DL
namespace DL
open PySem PySem.Spec L2
structure WD (K:Frg) (J:It) (ds:List PyData) (H1:Hp) (M1:Own):Prop where
 go:∀(i:Nat) H' M',i < ds.length->OA K H' M'->Step K M1 M' H1 H'->J.go i H'
 stop:∀H' M',OA K H' M'->Step K M1 M' H1 H'->J.stop ds.length H'
 yld:∀(i:Nat) H' M' x H2,OA K H' M'->Step K M1 M' H1 H'->i < ds.length->J.yld i H' x H2->OA K H2 M'/\Step K M' M' H' H2/\∃d,ds[i]?=some d/\DV K H2 M'.W d x
def DI (K:Frg) (wi:TI) (ρ:List (Option DS)) (M:Own) (Q:List PyData->Own->Prop):Prop:=
 ∀(σ:St) (H:Hp) (R:It->Hp->Prop),Rel K M ρ σ H->(∀J ds H1 M1,OA K H1 M1->Step K M M1 H H1->WD K J ds H1 M1->Q ds M1->R J H1)->wi σ H R
def DG (K:Frg) (g:TG) (d:PyData) (ρ:List (Option DS)) (M:Own) (P:List (Option DS)->Own->Prop):Prop:=
 ∀(σ:St) (H:Hp) (v:V) (QQ:St->Hp->Prop),Rel K M ρ σ H->DV K H M.W d v->(∀ρ' M' σ' H',Rel K M' ρ' σ' H'->Step K M M' H H'->P ρ' M'->QQ σ' H')->g v σ H QQ
def RE (g:TG) (T:List Nat):Prop:=∀(v:V) (σ:St) (H:Hp) (QQ:St->Hp->Prop),g v σ H (fun σ2 H2=>(∀i,i∉T->σ2[i]?=σ[i]?)->QQ σ2 H2)->g v σ H QQ
section
variable {K:Frg}{ρ:List (Option DS)}{M:Own}{D:EndsD}{tl:TE}{tb:TS}{i:Nat}{QI:List PyData->Own->Prop}{g:TG}{wi:TI}
def CB (z:Str):List PyData:=z.cps.toList.map fun c=>.str ⟨#[c]⟩
def CC (lo:Int) (n:Nat):List PyData:=(a1Q n).map fun(i:Nat)=>.int (lo+i)
theorem MT {ta:TA}(h:DA K ta ρ M fun xs M1=>∃j:Int,xs=[.d (.int j)]/\-(2 ^ 62)<=j/\j < 2 ^ 62/\QI (CC 0 j.toNat) M1):DI K (sU ta) ρ M QI:=fun σ H R Rl k=>
 h σ H _ Rl fun vs H1 xs M1 o1 s1 t1 ⟨j,e,h1,h2,q⟩=>by
   subst e
   obtain⟨v,r,rfl,h3,h4⟩:=s1
   cases h4
   rw[show v = .int j by unfold SI DV at h3;exact h3]
   have hlen:(CC 0 j.toNat).length=j.toNat:=by simp[CC]
   refine⟨j,rfl,h1,h2,k _ (CC 0 j.toNat) H1 M1 o1 t1 ⟨fun i H' M' hi oa st=>?_,fun H' M' oa st=>?_,fun i H' M' x H2 oa st hi y=>?_⟩ q⟩
   · show i < j.toNat;rw[← hlen];exact hi
   · show j.toNat<=(CC 0 j.toNat).length;rw[hlen];exact zR _
   · obtain⟨rfl,rfl⟩:=y
     refine⟨oa,Step.refl,.int (0+i),?_,by unfold DV;rfl⟩
     unfold CC
     rw[zF]
     rw[hlen] at hi
     simp[hi]
theorem pR {d:PyData}{P:List (Option DS)->Own->Prop}(h:P (ρ.set i (some (.d d))) M):DG K (MP i) d ρ M P:=fun σ H v QQ R dv k=>k _ M _ H (R.set (x:=.d d) dv i) Step.refl h
theorem AR (i:Nat):RE (MP i) [i]:=fun v σ H QQ h=>h fun j hj=>by
 rw[b5X (by rintro rfl;exact hj (by simp))]
abbrev EndsD.turn (D:EndsD) (P:List (Option DS)->Own->Prop):EndsD:={ nx:=P,ct:=P,bk:=D.nx,rt:=D.rt }
theorem HA (h:DI K wi ρ M fun ds M1=>∃P:Nat->List (Option DS)->Own->Prop,P 0 ρ M1/\(∀k d ρ' M',ds[k]?=some d->P k ρ' M'->DG K g d ρ' M' fun ρ2 M2=>DSt K tb ρ2 M2 (D.turn (P (k+1))))/\∀ρ' M',P ds.length ρ' M'->D.nx ρ' M') :
   DSt K (yK wi g tb) ρ M D:=fun σ H E R k1 k2 k3 k4=>
 h σ H _ R fun J ds H1 M1 o1 t1 wd ⟨P,p0,pt,pe⟩=>by
   refine⟨fun i m σ' H'=>m=ds.length - i/\i<=ds.length/\∃ρ' M',Rel K M' ρ' σ' H'/\Step K M1 M' H1 H'/\P i ρ' M',⟨_,rfl,xT _,ρ,M1,R.step o1 t1,Step.refl,p0⟩,?_⟩
   rintro i m σ' H' ⟨rfl,hi,ρ',M',R',st,p⟩
   by_cases hlt:i < ds.length
   · refine .inr ⟨wd.go i H' M' hlt R'.own st,fun σ2 H2=>∃ρ2 M2,Rel K M2 ρ2 σ2 H2/\Step K M1 M2 H1 H2/\P (i+1) ρ2 M2,fun σ2 H2 ⟨ρ2,M2,a,b,c⟩=>⟨ds.length - (i+1),by omega,rfl,hlt,ρ2,M2,a,b,c⟩,fun x H2 y=>?_⟩
     obtain⟨oa2,st2,d,e1,e2⟩:=wd.yld i H' M' x H2 R'.own st hlt y
     refine pt i d ρ' M' e1 p σ' H2 x _ (R'.step oa2 st2) e2 fun ρ3 M3 σ3 H3 R3 st3 b3=>?_
     have s3:=(st.trans st2).trans st3
     exact b3 σ3 H3 _ R3 (fun r m s hh R4 st4 q=>⟨r,m,R4,s3.trans st4,q⟩) (fun w hh x m a b c q=>k2 w hh x m a b (t1.trans (s3.trans c)) q)
       (fun r m s hh R4 st4 q=>k1 r m s hh R4 (t1.trans (s3.trans st4)) q) (fun r m s hh R4 st4 q=>⟨r,m,R4,s3.trans st4,q⟩)
   · have e:i=ds.length:=by omega
     subst e
     exact .inl ⟨wd.stop H' M' R'.own st,k1 ρ' M' σ' H' R' (t1.trans st) (pe ρ' M' p)⟩
def L7 (fr:List (Option Nat)) (ρ:List (Option DS)):List (Option DS):=fr.map fun o=>o.bind fun j=>(ρ[j]?).join
theorem KI {fr:List (Option Nat)}{α:Type}{ρ:List (Option α)}{i:Nat}{x:α}(h:(fr.map fun o=>o.bind fun j=>(ρ[j]?).join)[i]?=some (some x)):∃j,fr[i]?=some (some j)/\ρ[j]?=some (some x):=by
 rw[zF] at h
 cases hf:fr[i]? with
 | none=>rw[hf] at h;cases h
 | some o=>
   rw[hf] at h
   cases o with
   | none=>cases h
   | some j=>
     refine⟨j,rfl,?_⟩
     have e2:((ρ[j]?).join)=some x:=Option.some.inj h
     cases hs:ρ[j]? with
     | none=>rw[hs] at e2;cases e2
     | some q=>rw[hs] at e2;cases q with
       | none=>cases e2
       | some v'=>cases e2;rfl
theorem Rel.capt {fr:List (Option Nat)}{σ:St}{H:Hp}(R:Rel K M ρ σ H):Rel K M (L7 fr ρ) (L2.capt fr σ) H:=by
 refine⟨R.own,by unfold L7 L2.capt;rw[zX,zX],fun i x e=>?_⟩
 obtain⟨j,e1,e2⟩:=KI e
 obtain⟨v,h1,h2⟩:=R.slot j x e2
 refine⟨v,?_,h2⟩
 unfold L2.capt
 rw[zF,e1]
 simp[h1]
theorem VW {fr:List (Option Nat)}{tt:TT}{te:TE}{T:List Nat}{Q:DS->Own->Prop}(ho:RE g T) (hT:∀i∈T,∀j,fr[i]?≠some (some j))
   (h:DI K wi ρ M fun ds M1=>ds.length < sizeLine/\∀D,M1 D=none->∃P:Nat->List PyData->Own->Prop,P 0 [] (M1.put D (.l []))/\(∀k acc M',P k acc M'->M' D=some (.l acc)/\acc.length<=k) /\
     (∀k d acc M',ds[k]?=some d->P k acc M'->DG K g d (L7 fr ρ) M' fun ρ2 M2=>DT K tt ρ2 M2 fun c M3=>if c=true then DE K te ρ2 M3 fun y M4=>∃r,y = .d r/\M4 D=some (.l acc)/\P (k+1) (acc++[r]) (M4.put D (.l (acc++[r]))) else P (k+1) acc M3) /\
     ∀acc M',P ds.length acc M'->Q (.d (.list acc)) (M'.del D)) :
   DE K (UJ fr wi g tt te) ρ M Q:=fun σ H QQ R k=>
 h σ H _ R fun J ds H1 M1 o1 t1 wd ⟨hsz,hq⟩=>by
   intro A hA
   obtain⟨P,p0,pa,pt,pe⟩:=hq A (o1.none hA)
   obtain⟨oA,sA⟩:=dF o1 hA (DVs.nil (K:=K) (H:=H1) (W:=M1.W))
   refine⟨fun i m ys H2=>m=ds.length - i/\i<=ds.length/\H2 A=some (.lst ys)/\∃acc M',OA K H2 M'/\Step K M1 M' H1 H2/\P i acc M',⟨_,rfl,xT _,AK,[],_,oA,sA,p0⟩,?_⟩
   rintro i m ys H2 ⟨rfl,hi,hys,acc,M',oa,st,p⟩
   refine⟨hys,?_⟩
   have hs0:∀{N:Own},(N.del A).Sub N:=fun {N} b o q=>by
     unfold Own.del at q
     by_cases hb:b=A
     · rw[if_pos hb] at q;cases q
     · rw[if_neg hb] at q;exact q
   by_cases hlt:i < ds.length
   · refine .inr ⟨wd.go i H2 M' hlt oa st,fun x H3 y=>?_⟩
     obtain⟨oa3,st3,d,e1,e2⟩:=wd.yld i H2 M' x H3 oa st hlt y
     have Rc:Rel K M' (L7 fr ρ) (L2.capt fr σ) H3:=((R.step o1 t1).step oa3 (st.trans st3)).capt
     refine ho _ _ _ _ (pt i d acc M' e1 p (L2.capt fr σ) H3 x _ Rc e2 fun ρ3 M3 σ3 H4 R3 st4 b3 hext=>⟨fun i' v' hv'=>?_,?_⟩)
     · obtain⟨j,f1,f2⟩:=KI hv'
       rw[hext i' fun hm=>hT i' hm j f1]
       exact hv'
     · refine b3 σ3 H4 _ R3 fun c H5 M5 o5 st5 h5=>?_
       have sx:=((st.trans st3).trans st4).trans st5
       cases c with
       | false=>
         rw[if_neg nft] at h5 ⊢
         obtain⟨hm,_⟩:=pa _ _ _ h5
         obtain⟨vs,q1,q2⟩:=o5 A _ hm
         exact⟨vs,ds.length - (i+1),by omega,rfl,hlt,q1,acc,M5,o5,sx,h5⟩
       | true=>
         rw[if_pos rfl] at h5 ⊢
         refine h5 σ3 H5 _ (R3.step o5 st5) fun y H6 z M6 o6 s6 st6 h6=>?_
         obtain⟨r,rfl,hm,p'⟩:=h6
         obtain⟨vs,q1,q2⟩:=o6 A _ hm
         obtain⟨w1,w2⟩:=OE o6 hm (q2.append (DVs.cons s6 DVs.nil))
         have hlen:acc.length<=i:=(pa _ _ _ p).2
         exact⟨vs,q1,by rw[q2.length];omega,ds.length - (i+1),by omega,rfl,hlt,AK,_,_,w1,(sx.trans st6).trans w2,p'⟩
   · have e:i=ds.length:=by omega
     subst e
     refine .inl ⟨wd.stop H2 M' oa st,?_⟩
     obtain⟨hm,_⟩:=pa _ _ _ p
     obtain⟨vs,q1,q2⟩:=oa A _ hm
     have hst:Step K M' (M'.del A) H2 H2:=⟨BP hs0⟩
     refine k _ H2 (.d (.list acc)) (M'.del A) (oa.sub hs0) ?_ ((t1.trans st).trans hst) (pe acc M' p)
     unfold SI DV
     exact⟨A,vs,rfl,.inl ⟨fun w=>w (by unfold Own.del;rw[if_pos rfl]),.inl q1⟩,q2.grow (BP hs0)⟩
theorem AD {fr:List (Option Nat)}{tt:TT}{te:TE}{T:List Nat}{Q:DS->Own->Prop}(ho:RE g T) (hT:∀i∈T,∀j,fr[i]?≠some (some j))
   (h:DI K wi ρ M fun ds M1=>ds.length < sizeLine/\∃(c:PyData->Bool) (f:PyData->PyData),(∀d∈ds,∀M',DG K g d (L7 fr ρ) M' fun ρ2 M2=>M2=M'/\DT K tt ρ2 M2 fun b M3=>M3=M'/\b=c d/\(c d=true->DE K te ρ2 M3 fun y M4=>y = .d (f d)/\M4=M'))/\Q (.d (.list ((ds.filter c).map f))) M1) :
   DE K (UJ fr wi g tt te) ρ M Q:=by
 refine VW ho hT fun σ H R Rl k=>h σ H R Rl fun J ds H1 M1 o1 t1 wd q=>k J ds H1 M1 o1 t1 wd ?_
 obtain⟨hsz,c,f,he,q⟩:=q
 refine⟨hsz,fun A hA=>⟨fun k acc M'=>acc=((ds.take k).filter c).map f/\M'=M1.put A (.l acc),⟨by simp,rfl⟩,fun k acc M' ⟨e1,e2⟩=>⟨by rw[e2];exact zU,?_⟩,fun k d acc M' hd ⟨e1,e2⟩=>?_,fun acc M' ⟨e1,e2⟩=>?_⟩⟩
 · rw[e1,zX]
   exact zN (yJ _ _) (by rw[a0J];omega)
 · have hm:d∈ds:=yN hd
   intro σ H v QQ R dv kk
   refine he d hm M' σ H v QQ R dv fun ρ' M2 σ' H' R' st ⟨eM,q2⟩=>kk ρ' M2 σ' H' R' st fun σ2 H2 QQ2 R2 k2=>?_
   refine q2 σ2 H2 QQ2 R2 fun b H3 M3 o3 st3 ⟨eM3,eb,q3⟩=>k2 b H3 M3 o3 st3 ?_
   have ts:(ds.take (k+1)).filter c=(ds.take k).filter c++(if c d then [d] else []):=take_succ_filter c ds k d hd
   cases hb:c d with
   | false=>
     rw[hb] at eb
     subst eb
     refine L2.p6 ⟨?_,by rw[eM3,e2]⟩
     rw[ts,hb,e1];simp
   | true=>
     rw[hb] at eb
     subst eb
     refine L2.p7 ?_
     refine dG (q3 hb) fun y M4 ⟨ey,e4⟩=>⟨f d,ey,by rw[e4,e2];exact zU,?_,by rw[e4,e2,yI]⟩
     rw[ts,hb,e1];simp
 · rw[e2,yG hA,e1,a5K]
   exact q
end
def VX (N:List Str) (xs:List DS):List (Option DS):=xs.map some++a5Z (N.length - xs.length) none
section
variable {P:Program}{w:World}{K:Frg}{mg:Str->Option Value}{base:Heap}
theorem SIs.get {M:Own}{H:Hp}:∀{xs:List DS}{vs:List V}{i:Nat}{x:DS},SIs K H M xs vs->xs[i]?=some x->∃v,vs[i]?=some v/\SI K H M x v
 | [],_,_,_,_,e=>by simp at e
 | d::ds,vs,i,x,⟨v,r,e',h1,h2⟩,e=>by
   subst e'
   cases i with
   | zero=>simp at e;subst e;exact⟨v,rfl,h1⟩
   | succ i=>simpa using SIs.get h2 (by simpa using e)
theorem gE {M:Own}{H:Hp}{N:List Str}{xs:List DS}{vs:List V}(oa:OA K H M) (h:SIs K H M xs vs):Rel K M (VX N xs) (L2.IY N vs) H:=by
 have hl:=h.length
 refine⟨oa,by unfold VX L2.IY;simp[hl],fun i x e=>?_⟩
 unfold VX at e
 by_cases hi:i < xs.length
 · rw[yQ (by simpa using hi),zF] at e
   cases q:xs[i]? with
   | none=>rw[q] at e;cases e
   | some y=>
     rw[q] at e
     cases e
     obtain⟨v,h1,h2⟩:=h.get q
     refine⟨v,?_,h2⟩
     unfold L2.IY
     rw[yQ (by rw[zX,hl];exact hi),zF,h1]
     rfl
 · rw[yP (by simpa using hi),List.getElem?_replicate] at e
   split at e <;> cases e
theorem fnD {x qual:Str}{st:Stmt}{f:Addr}{fd:FuncData}{N ps:List Str}{k:Nat}{S:FSp}(F:Fun K x qual st f fd) (Sc:FnScope N ps (AB st))
   (hbody:∀(cdv:Value) (A:Around) (outer:List Env) (s:Shared) (H:Hp) (E:XK),Room k (A.deeper (PyProof.Rows.envOfC qual (AB st) s.heap.objs.size f cdv)) ->
     ∃t,PSs (aP CX0 P w K mg base N qual (AB st) f cdv A outer s H E).nox (DH st) t/\∀xs M,xs.length=ps.length->S.pre xs M->DSt K t (VX N xs) M { nx:=fun _ M1=>∃M2:Own,M2.Sub M1/\S.post xs M (.d .none) M2,rt:=fun y M1=>∃M2:Own,M2.Sub M1/\S.post xs M y M2 }) :
   FnOk P w K mg base CX0 (k+1) f fd ps (spD K ps.length S):=by
 refine F.ok Sc pG fun cdv A outer s H vs Q E hr h=>?_
 obtain⟨t,ht,hq⟩:=hbody cdv A outer s H E hr
 obtain⟨xs,M,hl,oa,si,pre,post⟩:=h
 refine⟨t,ht,hq xs M hl pre (L2.IY N vs) H _ (gE oa si) ?_ ?_ (fun _ _ _ _ _ _ z=>z.elim) (fun _ _ _ _ _ _ z=>z.elim)⟩
 · rintro ρ' M1 σ' H' R st ⟨M2,hs,p⟩
   exact post (.d .none) M2 .non H' p (st.trans ⟨BP hs⟩) (R.own.sub hs) (by unfold SI DV;rfl)
 · rintro v H' y M1 o s1 st ⟨M2,hs,p⟩
   exact post y M2 v H' p (st.trans ⟨BP hs⟩) (o.sub hs) (s1.sub hs)
end
end DL
namespace L2
open PySem PySem.Spec PyProof.Rows
section
variable {X:Cx}{tg:Expr}
def XZ (K:Frg):R2:=fun x y H Q=>(rI0 fun i j=>.int (i+j)) x y H Q∨((∃i j,x = .str i/\y = .str j/\i.length+j.length<=sizeLine/\Q (.str (i++j)) H)∨tD K x y H Q)
theorem pS:OpR X (binaryOp .Add) (XZ X.K):=uG.or (aN.or pD)
def gF (K:Frg):R2:=fun x y H Q=>oU K x y H Q∨(uU K x y H Q∨uV x y H Q)
theorem w6:IxR X (gF X.K):=oV.or (uW.or uX)
def pT (K:Frg):V->Option Int->Option Int->Hp->VK->Prop:=fun x lo hi H Q=>uY K x lo hi H Q∨vB x lo hi H Q
theorem w8:SlR X (pT X.K):=oW.or vC
def kC (K:Frg):R2:=fun x y H Q=>(∃i j,x = .str i/\y = .str j/\Q (.bl (!(a5J j i 0 j.length 1).isEmpty)) H)∨rIn K false x y H Q
theorem w9:OpR X (compareOp .In) (kC X.K):=fV.or fZ
def kD (K:Frg) (tl:TE):TI:=fun σ H R=>tl σ H fun x H1=>(∃a,x = .ref a/\(∃xs,SqL K H1 a xs)/\R (Itl K a) H1)∨(∃a,x = .ref a/\(∃xs,SqT K H1 a xs)/\R (Itt K a) H1)∨∃y,x = .str y/\R (Its y) H1
theorem wA {l:Expr}{tl:TE}(hl:PE X l tl):PI X tg l (kD X.K tl):=by
 intro pins s σ H R I h
 refine thn (hl pins s σ H _ I h) fun v s1 ⟨x,H1,I1,r1,q1⟩=>?_
 have fp:∀b∈[s1.heap.objs.size],LT X pins H1 b:=fun b hb=>by
   have e:b=s1.heap.objs.size:=by simpa using hb
   subst e
   exact I1.fpOk (zR _) (I1.hok.fresh (zR _))
 rcases q1 with ⟨a,e,⟨xs,hq⟩,q⟩ | ⟨a,e,⟨xs,hq⟩,q⟩ | ⟨y,e,q⟩
 · subst e
   cases r1
   obtain⟨its,rv,p,hz⟩:=I1.list hq
   refine wpAny_pyIter_list p.isList ?_
   exact⟨s1.heap.objs.size,[s1.heap.objs.size],_,_,H1,rfl,I1.kept (t':=s1.toks) fun b o e=>zW _ e,fR a _,⟨_,yZ _ rfl,rfl,rfl⟩,fp,q⟩
 · subst e
   cases r1
   obtain⟨its,rv,p,hz⟩:=I1.tuple hq
   refine wpAny_pyIter_tuple (show s1.heap.IsTuple a its.toArray from p) ?_
   exact⟨s1.heap.objs.size,[s1.heap.objs.size],_,_,H1,rfl,I1.kept (t':=s1.toks) fun b o e=>zW _ e,aJ a _,⟨_,yZ _ rfl,rfl,rfl⟩,fp,q⟩
 · subst e
   obtain⟨t,rfl⟩:=r1
   cases ha:y.cps.all (· < 128)
   · exact wpAny_pyIter_wide ha ⟨s1.heap.objs.size,[s1.heap.objs.size],_,_,H1,rfl,I1.kept (t':=s1.toks) fun b o e=>zW _ e,
       XX s1.heap.objs.size "str_iterator" y t (by decide) (fun A hA=>Walks.strWide hA _ y t) (fun _ _ _ _ _ st h=>wpAny_pyIter_striter_wide st h),⟨_,yZ _ rfl,rfl,rfl⟩,fp,q⟩
   · exact wpAny_pyIter_ascii ha ⟨s1.heap.objs.size,[s1.heap.objs.size],_,_,H1,rfl,I1.kept (t':=s1.toks) fun b o e=>zW _ e,
       XX s1.heap.objs.size "str_ascii_iterator" y t (by decide) (fun A hA=>Walks.strAscii hA _ y t) (fun _ _ _ _ _ st h=>wpAny_pyIter_striter_ascii st h),⟨_,yZ _ rfl,rfl,rfl⟩,fp,q⟩
end
def kE:NameKind->Bool | .free=>true | _=>false
def kF:NameKind->Bool | .cell=>true | _=>false
def dM:NameKind->Bool | .local=>true | _=>false
def kG (osc:Scope) (ON:List Str) (scope:Scope) (NC:List Str) (fr:List (Option Nat)):Bool:=
 (match scope.kind with | .function=>true | _=>false)&&scope.names.all (fun y=>!kF y.2) &&
 scope.names.all (fun y=>!dM y.2||(match scope.names.lookup y.1 with | some .local=>true | _=>false)) &&
 scope.names.all (fun y=>!kE y.2||(match osc.names.lookup y.1 with | some .cell=>true | some .free=>true | _=>false)) &&
 fr.length==NC.length &&
 (a1Q NC.length).all fun i=>match fr[i]?,NC[i]? with
   | some (some j),some x=>ON[j]?==some x&&(match scope.names.lookup x with | some .free=>true | _=>false)&&(match osc.names.lookup x with | some .cell=>true | some .free=>true | _=>false)
   | _,_=>true
theorem CSc.of {X:Cx}{scope:Scope}{NC:List Str}{fr:List (Option Nat)}{osc:Scope}{ON:List Str}(h:kG osc ON scope NC fr=true) (e:X.env.scope=osc) (eN:X.N=ON):CSc X scope NC fr:=by
 subst e eN
 unfold kG at h
 simp only[a0W,b1W,List.mem_range,beq_iff_eq] at h
 obtain⟨⟨⟨⟨⟨h1,h2⟩,h3⟩,h4⟩,h5⟩,h6⟩:=h
 refine⟨?_,fun y hy e=>?_,fun y hy e=>?_,fun y hy e=>?_,h5,fun i j x e1 e2=>?_⟩
 · cases hk:scope.kind <;> rw[hk] at h1 <;> simp at h1 ⊢
 · have:=h2 y hy;rw[e] at this;simp[kF] at this
 · have:=h3 y hy
   rw[e] at this
   simp only[dM,Bool.not_true,Bool.false_or] at this
   cases hl:scope.names.lookup y.1 with
   | none=>rw[hl] at this;cases this
   | some k=>rw[hl] at this;cases k <;> first | rfl | cases this
 · have:=h4 y hy
   rw[e] at this
   simp only[kE,Bool.not_true,Bool.false_or] at this
   cases hl:X.env.scope.names.lookup y.1 with
   | none=>rw[hl] at this;cases this
   | some k=>
     rw[hl] at this
     cases k <;> first
       | exact .inl hl
       | exact .inr hl
       | cases this
 · have hi:i < NC.length:=(yT.mp e1).1
   have:=h6 i hi
   rw[e1,e2] at this
   simp only[a0W,beq_iff_eq] at this
   obtain⟨⟨q1,q2⟩,q3⟩:=this
   refine⟨q1,?_,?_⟩
   · cases hl:scope.names.lookup x with
     | none=>rw[hl] at q2;cases q2
     | some k=>rw[hl] at q2;cases k <;> first | rfl | cases q2
   · cases hl:X.env.scope.names.lookup x with
     | none=>rw[hl] at q3;cases q3
     | some k=>
       rw[hl] at q3
       cases k <;> first
         | exact⟨.inr (.inl hl),fun z=>by have z':X.env.scope.names.lookup x=some .local:=z;rw[hl] at z';cases z'⟩
         | exact⟨.inr (.inr hl),fun z=>by have z':X.env.scope.names.lookup x=some .local:=z;rw[hl] at z';cases z'⟩
         | cases q3
end L2
namespace DL
open PySem PySem.Spec L2
section
variable {K:Frg}{ρ:List (Option DS)}{M:Own}{Q:DS->Own->Prop}{H:Hp}{QI:List PyData->Own->Prop}{tl ta tb:TE}
theorem kH {i j:Int}(q:Q (.d (.int (i+j))) M):D2 K (XZ K) (.d (.int i)) (.d (.int j)) M Q:=FW (A0P q)
theorem kI {i j:Str}(hz:i.length+j.length<=sizeLine) (q:Q (.d (.str (i++j))) M):D2 K (XZ K) (.d (.str i)) (.d (.str j)) M Q:=ID (FW (pL hz q))
theorem kJ {a b:List PyData}(hz:a.length+b.length<=sizeLine) (q:Q (.d (.list (a++b))) M):D2 K (XZ K) (.d (.list a)) (.d (.list b)) M Q:=ID (ID (vX hz q))
theorem D6 {ds:List PyData}{i:Int}{d:PyData}(e:atI ds i=some d) (q:Q (.d d) M):D2 K (gF K) (.d (.list ds)) (.d (.int i)) M Q:=FW (vT e q)
theorem pU {a:Addr}{ds:List PyData}{i:Int}{d:PyData}(m:M a=some (.l ds)) (e:atI ds i=some d) (q:Q (.d d) M):D2 K (gF K) (.loc a) (.d (.int i)) M Q:=FW (vV m e q)
theorem AA {ds:List PyData}{i:Int}{d:PyData}(e:atI ds i=some d) (q:Q (.d d) M):D2 K (gF K) (.d (.tuple ds)) (.d (.int i)) M Q:=ID (FW (vU e q))
theorem VY {z:Str}{i:Int}{c:Nat}(hz:z.length<=sizeLine) (e:atI z.cps.toList i=some c) (q:Q (.d (.str ⟨#[c]⟩)) M):D2 K (gF K) (.d (.str z)) (.d (.int i)) M Q:=ID (ID (vW hz e q))
theorem kK {z:Str}{lo hi:Option Int}(hz:z.length<=sizeLine) (q:Q (.d (.str (a1X z lo hi))) M):DSl K (pT K) (.d (.str z)) lo hi M Q:=fun H v QQ oa s1 k=>.inr (pQ hz q H v QQ oa s1 k)
theorem gG {ds:List PyData}{lo hi:Option Int}(q:Q (.d (.list (EJ ds lo hi))) M):DSl K (pT K) (.d (.list ds)) lo hi M Q:=fun H v QQ oa s1 k=>.inl (kB q H v QQ oa s1 k)
theorem pV {i j:Str}(q:Q (.d (.bool (!(a5J j i 0 j.length 1).isEmpty))) M):D2 K (kC K) (.d (.str i)) (.d (.str j)) M Q:=FW (vQ q)
theorem IE {x:Str}{ys:List Str}(q:Q (.d (.bool (decide (x∈ys)))) M):D2 K (kC K) (.d (.str x)) (.d (.list (ys.map .str))) M Q:=ID (vR (neg:=false) q)
theorem AX (h:DE K tl ρ M fun x M1=>∃ds,x = .d (.list ds)/\QI ds M1):DI K (kD K tl) ρ M QI:=fun σ H R Rl k=>
 h σ H _ Rl fun v H1 x M1 o1 s1 t1 ⟨ds,e,q⟩=>by
   subst e
   unfold SI DV at s1
   obtain⟨a,vs,rfl,hl,hd⟩:=s1
   refine .inl ⟨a,rfl,⟨vs,hl.sq⟩,k _ ds H1 M1 o1 t1 ⟨fun i H' M' hi oa st=>?_,fun H' M' oa st=>?_,fun i H' M' x H2 oa st hi y=>?_⟩ q⟩
   · exact⟨vs,vs[i]'(by rw[hd.length];exact hi),(hl.grow st.grow).sq,by simp[hd.length,hi]⟩
   · exact⟨vs,(hl.grow st.grow).sq,by rw[hd.length];exact zR _⟩
   · obtain⟨rfl,y⟩:=y
     obtain⟨d,e1,e2⟩:=hd.get (y vs (hl.grow st.grow).sq)
     exact⟨oa,Step.refl,d,e1,e2.grow st.grow⟩
theorem CM (h:DE K tl ρ M fun x M1=>∃ds,x = .d (.tuple ds)/\QI ds M1):DI K (kD K tl) ρ M QI:=fun σ H R Rl k=>
 h σ H _ Rl fun v H1 x M1 o1 s1 t1 ⟨ds,e,q⟩=>by
   subst e
   unfold SI DV at s1
   obtain⟨a,vs,rfl,hl,hd⟩:=s1
   refine .inr (.inl ⟨a,rfl,⟨vs,hl.sq⟩,k _ ds H1 M1 o1 t1 ⟨fun i H' M' hi oa st=>?_,fun H' M' oa st=>?_,fun i H' M' x H2 oa st hi y=>?_⟩ q⟩)
   · exact⟨vs,vs[i]'(by rw[hd.length];exact hi),(hl.grow st.grow).sq,by simp[hd.length,hi]⟩
   · exact⟨vs,(hl.grow st.grow).sq,by rw[hd.length];exact zR _⟩
   · obtain⟨rfl,y⟩:=y
     obtain⟨d,e1,e2⟩:=hd.get (y vs (hl.grow st.grow).sq)
     exact⟨oa,Step.refl,d,e1,e2.grow st.grow⟩
theorem pW (h:DE K tl ρ M fun x M1=>∃z,x = .d (.str z)/\QI (CB z) M1):DI K (kD K tl) ρ M QI:=fun σ H R Rl k=>
 h σ H _ Rl fun v H1 x M1 o1 s1 t1 ⟨z,e,q⟩=>by
   subst e
   have hlen:(CB z).length=z.cps.size:=by simp[CB]
   rw[show v = .str z by unfold SI DV at s1;exact s1]
   refine .inr (.inr ⟨z,rfl,k _ (CB z) H1 M1 o1 t1 ⟨fun i H' M' hi oa st=>?_,fun H' M' oa st=>?_,fun i H' M' x H2 oa st hi y=>?_⟩ q⟩)
   · show i < z.cps.size;rw[← hlen];exact hi
   · exact hlen
   · obtain⟨rfl,c,e1,rfl⟩:=y
     exact⟨oa,Step.refl,.str ⟨#[c]⟩,by unfold CB;rw[zF];simp[e1],by unfold DV;rfl⟩
def tyD:PyData->String
 | .none => "NoneType"
 | .bool _ => "bool"
 | .int _ => "int"
 | .str _ => "str"
 | .list _ => "list"
 | .tuple _ => "tuple"
 | .dict _ => "dict"
end
end DL
namespace L2
open PySem PySem.Spec PyProof.Rows
section
variable {X:Cx}
def kL (K:Frg):List V->Hp->VK->Prop:=fun xs H Q=>∃(x:V) (T:String) (d:PyData) (W:Addr->Prop) (b:Bool),xs=[x,.ty T]/\DV K H W d x/\PySem.W.kitOne K (.type (DL.tyD d)) (.type T)=some b/\Q (.bl b) H
theorem gH:BO X (.builtin "isinstance") (kL X.K):=by
 intro pins s σ H xs us Q I r h
 obtain⟨x,T,d,W,b,rfl,dv,e,q⟩:=h
 obtain⟨u,u',rfl,ru,ru'⟩:=sX r
 cases ru'
 have fin:∀tk,EP X pins σ Q (.bool b) { s with toks:=tk }:=fun tk=>⟨.bl b,H,I.tok _,rfl,q⟩
 cases d with
 | none=>unfold DV at dv;subst dv;exact HF I ru (TyOf.non) e fin
 | bool y=>unfold DV at dv;subst dv;exact HF I ru (TyOf.bl _) e fin
 | int i=>unfold DV at dv;subst dv;exact HF I ru (TyOf.int _) e fin
 | str y=>unfold DV at dv;subst dv;exact HF I ru (TyOf.str _) e fin
 | list ds=>
   unfold DV at dv
   obtain⟨a,vs,rfl,hl,_⟩:=dv
   cases ru
   obtain⟨its,rv,⟨o,n,h1,h2,_,_⟩,_⟩:=I.list hl.sq
   exact a2Z PySem.W.kitx_list I.kIn ⟨o,h1,h2⟩ e (fun z=>nomatch z) fin
 | tuple ds=>
   unfold DV at dv
   obtain⟨a,vs,rfl,hl,_⟩:=dv
   cases ru
   obtain⟨its,rv,⟨o,h1,h2,_⟩,_⟩:=I.tuple hl.sq
   exact a2Z PySem.W.kitx_tuple I.kIn ⟨o,h1,h2⟩ e (fun z=>nomatch z) fin
 | dict kvs=>
   unfold DV at dv
   obtain⟨a,vs,rfl,_,hl,_⟩:=dv
   rcases hl with hl | ⟨o',hl⟩
   · exact HF I ru (TyOf.dK hl) e fin
   · cases ru
     obtain⟨_,_,vs',_,dd⟩:=JP I.hok (.inr ⟨o',hl⟩)
     exact a2Z PySem.W.kitx_dict I.kIn dd.typeIs e (fun z=>nomatch z) fin
end
end L2
namespace DL
open PySem PySem.Spec L2
section
variable {K:Frg}{ρ:List (Option DS)}{M:Own}{Q:DS->Own->Prop}{H:Hp}{ta tb:TE}
theorem kM {d:PyData}{T:String}{b:Bool}(e:PySem.W.kitOne K (.type (tyD d)) (.type T)=some b) (q:Q (.d (.bool b)) M):DR K (kL K) [.d d,.ty T] M Q:=fun H vs QQ oa s k=>by
 obtain⟨v,r,rfl,h1,v2,r2,rfl,h2,h3⟩:=s
 cases h3
 rw[show v2 = .ty T from h2]
 exact⟨v,T,d,M.W,b,rfl,h1,e,k _ H _ M oa AI Step.refl q⟩
theorem RF {p:Addr}{ks:List (Key×V)}{kvs:List (PyData×PyData)}(oa:OA K H M) (h:H p=b9Z) (hd:DKV K H M.W kvs ks) :
   OA K (upd H p (.dK ks)) (M.put p (.d kvs))/\Step K M (M.put p (.d kvs)) H (upd H p (.dK ks)):=by
 have hM:=oa.none h
 have g:Grow K M.W (M.put p (.d kvs)).W H (upd H p (.dK ks)):=⟨fun b u e _=>.inl (by rw[AM (B2 e h)];exact e),fun b w=>by
   by_cases hb:b=p
   · subst hb;exact .inr h
   · left;unfold Own.W at w ⊢;rw[yH hb] at w;exact w⟩
 refine⟨fun a o e=>?_,⟨g⟩⟩
 by_cases ha:a=p
 · subst ha;rw[zU] at e;cases e;exact⟨ks,AK,hd.grow g⟩
 · rw[yH ha] at e
   have q:=oa a o e
   cases o with
   | l ds=>obtain⟨vs,q1,q2⟩:=q;exact⟨vs,by rw[AM ha];exact q1,q2.grow g⟩
   | d kvs=>obtain⟨vs,q1,q2⟩:=q;exact⟨vs,by rw[AM ha];exact q1,q2.grow g⟩
   | x C fs=>obtain⟨vs,q1,q2⟩:=q;exact⟨vs,by rw[AM ha];exact q1,q2.grow g⟩
theorem D7 {p:Addr}{ks:List (Key×V)}{kvs:List (PyData×PyData)}{o:MO}(oa:OA K H M) (h:M p=some o) (hd:DKV K H M.W kvs ks) :
   OA K (upd H p (.dK ks)) (M.put p (.d kvs))/\Step K M (M.put p (.d kvs)) H (upd H p (.dK ks)):=by
 have hw:∀b,(M.put p (.d kvs)).W b->M.W b:=fun b w=>by
   unfold Own.W at w ⊢
   by_cases hb:b=p
   · subst hb;rw[h];simp
   · rw[yH hb] at w;exact w
 have g:Grow K M.W (M.put p (.d kvs)).W H (upd H p (.dK ks)):=⟨fun b u e nw=>.inl (by
   rw[AM (by rintro rfl;exact nw (by unfold Own.W;rw[h];simp))];exact e),fun b w=>.inl (hw b w)⟩
 refine⟨fun a o e=>?_,⟨g⟩⟩
 by_cases ha:a=p
 · subst ha;rw[zU] at e;cases e;exact⟨ks,AK,hd.grow g⟩
 · rw[yH ha] at e
   have q:=oa a o e
   cases o with
   | l ds=>obtain⟨vs,q1,q2⟩:=q;exact⟨vs,by rw[AM ha];exact q1,q2.grow g⟩
   | d kvs=>obtain⟨vs,q1,q2⟩:=q;exact⟨vs,by rw[AM ha];exact q1,q2.grow g⟩
   | x C fs=>obtain⟨vs,q1,q2⟩:=q;exact⟨vs,by rw[AM ha];exact q1,q2.grow g⟩
end
structure Has (P:Program) (w:World) (K:Frg) (mg:Str->Option Value) (base:Heap) (x:Str) (k:Nat) (ps:List Str) (S:FSp):Prop where
 ex:∃f fd,FnOk P w K mg base CX0 k f fd ps (spD K ps.length S)/\mg x=some (.ref f)/\b0W K (.ref f)=true/\Binds K fd ps []
theorem kN {X:Cx}{x:Str}{k:Nat}{ps:List Str}{S:FSp}{e:Expr}{es:List Expr}{t:TA}{p pos:Pos}(h:Has X.prog X.w X.K X.mg X.base x k ps S) (hr:Room k X.A) (hg:Gl X x) (ha:PA X (e::es) t)
   (hdb:(x==("__debug__":Str))=false:=by decide) (he:starEach (e::es) X.env=(false,eval e X.env)::starEach es X.env:=by rfl) (hpl:(backTo pos (starEach es X.env)).any (·.1)=false:=by rfl) :
   PE X (.Call (.Name x p) (e::es) [] pos) (cX (spD X.K ps.length S) [] E0 t):=by
 obtain⟨f,fd,F,hm,hk,hb⟩:=h.ex
 exact oQ F hr hg hm hk hb .nil A0D ha hdb he hpl
theorem pX {X:Cx}{x z:Str}{pos:Pos}(hg:Gl X x) (h:∃t,X.mg x=some (.str z t)) (hd:(x==("__debug__":Str))=false:=by decide):PE X (.Name x pos) (tC (.str z)):=by
 obtain⟨t,h⟩:=h
 exact cS hg h ⟨t,rfl⟩ hd
theorem pY {X:Cx}{x:Str}{z:Int}{pos:Pos}(hg:Gl X x) (h:∃t,X.mg x=some (.int z t)) (hd:(x==("__debug__":Str))=false:=by decide):PE X (.Name x pos) (tC (.int z)):=by
 obtain⟨t,h⟩:=h
 exact cS hg h ⟨t,rfl⟩ hd
section
variable {X:Cx}{K:Frg}
theorem kIx (h:X.K=K):IxR X (gF K):=h▸w6
theorem kIn (h:X.K=K):OpR X (compareOp .In) (kC K):=h▸w9
theorem kEq (h:X.K=K) (hu:X.A.units+64 < cLine):OpR X (compareOp .Eq) (gD K false):=h▸vD hu
theorem kNe (h:X.K=K) (hu:X.A.units+64 < cLine):OpR X (compareOp .NotEq) (gD K true):=h▸vE hu
def pZ (K:Frg):List V->Hp->VK->Prop:=fun xs H Q=>∃x n,xs=[x]/\jL K x H n/\Q (.int (n:Nat)) H
def tG (K:Frg):List V->Hp->VK->Prop:=fun xs H Q=>∃(p:Addr) (bs:List Bool),xs=[.ref p]/\SqL K H p (bs.map V.bl)/\Q (.bl (bs.all id)) H
def tH (K:Frg):List V->Hp->VK->Prop:=fun xs H Q=>∃(p:Addr) (bs:List Bool),xs=[.ref p]/\SqL K H p (bs.map V.bl)/\Q (.bl (bs.any id)) H
theorem A0t (h:X.K=K):BO X (.builtin "len") (pZ K):=h▸jM
theorem A0u (h:X.K=K) (hc:X.calm=true):BO X (.builtin "all") (tG K):=h▸jZ hc
theorem A0v (h:X.K=K) (hc:X.calm=true):BO X (.builtin "any") (tH K):=h▸k0 hc
theorem A0w (h:X.K=K):BO X (.builtin "isinstance") (kL K):=h▸gH
theorem A0R {tg l:Expr}{tl:TE}(h:X.K=K) (hl:PE X l tl):PI X tg l (kD K tl):=h▸wA hl
theorem A0S {P:Program}{w:World}{mg:Str->Option Value}{base:Heap}{x:Str}{k:Nat}{ps:List Str}{S:FSp}{e:Expr}{es:List Expr}{t:TA}{p pos:Pos}(hK:X.K=K) (hP:X.prog=P) (hw:X.w=w) (hmg:X.mg=mg) (hbs:X.base=base)
   (h:Has P w K mg base x k ps S) (hr:Room k X.A) (hg:Gl X x) (ha:PA X (e::es) t)
   (hdb:(x==("__debug__":Str))=false:=by decide) (he:starEach (e::es) X.env=(false,eval e X.env)::starEach es X.env:=by rfl) (hpl:(backTo pos (starEach es X.env)).any (·.1)=false:=by rfl) :
   PE X (.Call (.Name x p) (e::es) [] pos) (cX (spD K ps.length S) [] E0 t):=by
 subst hK hP hw hmg hbs
 exact kN h hr hg ha hdb he hpl
variable {o e:Expr}{es:List Expr}{to:TE}{t:TA}{name:Str}{apos cpos:Pos}{T id:String}{r:V->List V->Hp->VK->Prop}
theorem kBm (h:X.K=K) (pa:PlainAttrs T) (slot:Slot T name id) (hty:typeOf (.builtin id)=pure (.type "method_descriptor")) (hm:MtR X id r) (ho:PE X o to) (ha:PA X (e::es) t)
   (hbase:attributeBase o name X.env (eval o X.env)=eval o X.env:=by rfl)
   (hfew:((backTo cpos (starEach (e::es) X.env)).all (fun x=>!x.1)&&(backToKw cpos (keywordEach [] X.env)).all (fun x=>x.1.isSome)
     && decide ((e::es).length+([]:List Keyword).length+(if ([]:List Keyword).isEmpty then 0 else 1) < 30))=true:=by rfl)
   (hline:(apos.endLine==cpos.line)=true:=by rfl) (hs:starEach (e::es) X.env=(false,eval e X.env)::starEach es X.env:=by rfl) (hplain:(backTo cpos (starEach es X.env)).any (·.1)=false:=by rfl) :
   PE X (.Call (.Attribute o name apos) (e::es) [] cpos) (tBM K T r to t):=h▸zK pa slot hty hm ho ha hbase hfew hline hs hplain
end
section
variable {K:Frg}{M:Own}{Q:DS->Own->Prop}
theorem dN {z:Str}(hz:z.length<=sizeLine) (q:Q (.d (.int z.length)) M):DR K (pZ K) [.d (.str z)] M Q:=pM hz q
theorem KJ {ds:List PyData}(q:Q (.d (.int ds.length)) M):DR K (pZ K) [.d (.list ds)] M Q:=pN q
theorem GH {ds:List PyData}(q:Q (.d (.int ds.length)) M):DR K (pZ K) [.d (.tuple ds)] M Q:=pO q
theorem aW {bs:List Bool}(q:Q (.d (.bool (bs.all id))) M):DR K (tG K) [.d (.list (bs.map .bool))] M Q:=vY q
theorem kQ {bs:List Bool}(q:Q (.d (.bool (bs.any id))) M):DR K (tH K) [.d (.list (bs.map .bool))] M Q:=vZ q
end
end DL
namespace L2
open PySem PySem.Spec PyProof.Rows
section
variable {X:Cx}
theorem kR:∀{its:List Value}{ss:List Str},StrsAre its ss->Vals (ss.map V.str) its
 | _,_,.nil=>.nil
 | _,_,.cons y t r=>.cons ⟨t,rfl⟩ (kR r)
def kS (K:Frg):List V->Hp->VK->Prop:=fun xs H Q=>∃(p:Addr) (ss:List Str),xs=[.ref p]/\SqL K H p (ss.map V.str)/\ss.length < 64/\∀(ss':List Str) (q:Addr),ss'.Perm ss->sortedS ss'=true->H q=none->Q (.ref q) (upd H q (.lst (ss'.map V.str)))
theorem aX:BO X (.builtin "sorted") (kS X.K):=by
 intro pins s σ H xs us Q I r h
 obtain⟨p,ss,rfl,hp,h64,q⟩:=h
 obtain⟨u,rfl,ru⟩:=F6 r
 cases ru
 obtain⟨its,rv,pl,hz⟩:=I.list hp
 have hS:=dE rv
 have el:=rv.length
 rw[zX] at el
 refine sorted_strs pl.isList hS (by omega) fun out ss' h1 h2 h3=>?_
 obtain⟨e,he⟩:=sortedAll_at s.heap its out
 have hn:H (s.heap.objs.size+1)=none:=I.hok.fresh (b4X _)
 have hlen:=h2.length_eq
 refine⟨.ref (s.heap.objs.size+1),_,I.laid (t':=s.toks) (o:=.lst (ss'.map V.str)) (fun b o eb=>sortedAll_old eb) (b4X _) ?_,rfl,q ss' _ h2 h3 hn⟩
 refine⟨by rw[zX,hlen];exact zN (xR h64) (by decide),out.toList,e,kR h1,?_⟩
 have he':=he
 simpa [seqObj] using he'
end
end L2
namespace DL
open PySem PySem.Spec L2
section
variable {X:Cx}{K:Frg}
def Y0 (K:Frg):List V->Hp->VK->Prop:=fun xs H Q=>∃p ys,xs=[.ref p]/\((SqL K H p ys/\∀l,H l=none->Q (.ref l) (upd H l (.tup ys)))∨(SqT K H p ys/\Q (.ref p) H))
theorem wB (h:X.K=K):BO X (.type "tuple") (Y0 K):=h▸TJ
def VZ (K:Frg):List V->Hp->VK->Prop:=fun xs H Q=>∃p ys,xs=[.ref p]/\(SqL K H p ys∨SqT K H p ys)/\∀l,H l=none->Q (.ref l) (upd H l (.lst ys))
theorem kT (h:X.K=K):BO X (.type "list") (VZ K):=h▸VM
end
section
variable {K:Frg}{M:Own}{Q:DS->Own->Prop}{ρ:List (Option DS)}{H:Hp}
theorem FE {ds:List PyData}(q:Q (.d (.tuple ds)) M):DR K (Y0 K) [.d (.list ds)] M Q:=fun H vs QQ oa s k=>by
 obtain⟨v,r,rfl,h1,h2⟩:=s
 cases h2
 unfold SI DV at h1
 obtain⟨a,vs,rfl,hl,hd⟩:=h1
 refine⟨a,vs,rfl,.inl ⟨hl.sq,fun p hp=>?_⟩⟩
 have g:Grow K M.W M.W H (upd H p (.tup vs)):=AW _ hp
 refine k _ _ (.d (.tuple ds)) M (oa.new hp) ?_ ⟨g⟩ q
 unfold SI DV
 exact⟨p,vs,rfl,.inl ⟨fun w=>w (oa.none hp),.inl AK⟩,hd.grow g⟩
theorem MU {ds:List PyData}(q:Q (.d (.list ds)) M):DR K (VZ K) [.d (.tuple ds)] M Q:=fun H vs QQ oa s k=>by
 obtain⟨v,r,rfl,h1,h2⟩:=s
 cases h2
 unfold SI DV at h1
 obtain⟨a,vs,rfl,hl,hd⟩:=h1
 refine⟨a,vs,rfl,.inr hl.sq,fun p hp=>?_⟩
 have g:Grow K M.W M.W H (upd H p (.lst vs)):=AW _ hp
 refine k _ _ (.d (.list ds)) M (oa.new hp) ?_ ⟨g⟩ q
 unfold SI DV
 exact⟨p,vs,rfl,.inl ⟨fun w=>w (oa.none hp),.inl AK⟩,hd.grow g⟩
theorem P5 {W:Addr->Prop}:∀{bs:List Str},DVs K H W (bs.map a0K) (bs.map V.str)
 | []=>DVs.nil
 | b::bs=>DVs.cons (by unfold DV;rfl) P5
def DJ:PyData->Bool | .none=>true | _=>false
theorem wC {d:PyData}(q:Q (.d (.bool (DJ d))) M):D2 K (fun x y H Q=>y = .non/\Q (.bl (decide (x = .non))) H) (.d d) (.d .none) M Q:=fun H v u QQ oa s1 s2 k=>by
 refine⟨kA s2,k _ H (.d (.bool (DJ d))) M oa ?_ Step.refl q⟩
 cases d <;> unfold SI DV at s1
 · rw[s1];exact AI
 · rw[s1];exact AI
 · rw[s1];exact AI
 · rw[s1];exact AI
 · obtain⟨a,_,rfl,_⟩:=s1;exact AI
 · obtain⟨a,_,rfl,_⟩:=s1;exact AI
 · obtain⟨a,_,rfl,_⟩:=s1;exact AI
theorem qA {d:PyData}(q:Q (.d (.bool (!DJ d))) M):D2 K (fun x y H Q=>y = .non/\Q (.bl (!decide (x = .non))) H) (.d d) (.d .none) M Q:=fun H v u QQ oa s1 s2 k=>by
 refine⟨kA s2,k _ H (.d (.bool (!DJ d))) M oa ?_ Step.refl q⟩
 cases d <;> unfold SI DV at s1
 · rw[s1];exact AI
 · rw[s1];exact AI
 · rw[s1];exact AI
 · rw[s1];exact AI
 · obtain⟨a,_,rfl,_⟩:=s1;exact AI
 · obtain⟨a,_,rfl,_⟩:=s1;exact AI
 · obtain⟨a,_,rfl,_⟩:=s1;exact AI
end
def DGs (K:Frg) (g:TGs) (ds:List PyData) (ρ:List (Option DS)) (M:Own) (P:List (Option DS)->Own->Prop):Prop:=
 ∀(σ:St) (H:Hp) (vs:List V) (QQ:St->Hp->Prop),Rel K M ρ σ H->DVs K H M.W ds vs->(∀ρ' M' σ' H',Rel K M' ρ' σ' H'->Step K M M' H H'->P ρ' M'->QQ σ' H')->g vs σ H QQ
section
variable {K:Frg}{M:Own}{ρ:List (Option DS)}{P:List (Option DS)->Own->Prop}
theorem qB (h:P ρ M):DGs K oJ [] ρ M P:=fun σ H vs QQ R hd k=>by
 unfold DVs at hd
 subst hd
 exact⟨rfl,k ρ M σ H R Step.refl h⟩
theorem kU {i:Nat}{g:TGs}{d:PyData}{ds:List PyData}(h:DGs K g ds (ρ.set i (some (.d d))) M P):DGs K (UA (MP i) g) (d::ds) ρ M P:=fun σ H vs QQ R hd k=>by
 unfold DVs at hd
 obtain⟨v,r,rfl,h1,h2⟩:=hd
 exact⟨v,r,rfl,h (σ.set i (some v)) H r QQ (R.set (x:=.d d) h1 i) h2 k⟩
theorem wE {n:Nat}{g:TGs}{ds:List PyData}(hn:ds.length=n) (h:DGs K g ds ρ M P):DG K (oM K n g) (.tuple ds) ρ M P:=fun σ H v QQ R dv k=>by
 unfold DV at dv
 obtain⟨a,vs,rfl,hl,hd⟩:=dv
 exact⟨a,vs,rfl,hl.sq,by rw[hd.length];exact hn,h σ H vs QQ R hd k⟩
def qC (g:TGs) (T:List Nat):Prop:=(∀(vs:List V) (σ:St) (H:Hp) (Q Q':St->Hp->Prop),(∀a b,Q a b->Q' a b)->g vs σ H Q->g vs σ H Q') /\
 (∀(vs:List V) (σ:St) (H:Hp) (QQ:St->Hp->Prop),g vs σ H QQ->g vs σ H fun σ2 H2=>(∀i,i∉T->σ2[i]?=σ[i]?)/\QQ σ2 H2)
theorem W0:qC oJ []:=⟨fun vs σ H Q Q' m ⟨e,h⟩=>⟨e,m _ _ h⟩,fun vs σ H QQ ⟨e,h⟩=>⟨e,fun _ _=>rfl,h⟩⟩
theorem FF {i:Nat}{g:TGs}{T:List Nat}(hg:qC g T):qC (UA (MP i) g) (i::T):=by
 refine⟨fun vs σ H Q Q' m ⟨v,r,e,h⟩=>⟨v,r,e,hg.1 r _ H Q Q' m h⟩,fun vs σ H QQ ⟨v,r,e,h⟩=>⟨v,r,e,?_⟩⟩
 refine hg.1 r _ H _ _ (fun σ2 H2 ⟨h1,h2⟩=>⟨fun j hj=>?_,h2⟩) (hg.2 r (σ.set i (some v)) H QQ h)
 rw[h1 j fun z=>hj (yV _ z),b5X (by rintro rfl;exact hj a1W)]
theorem W1 {n:Nat}{g:TGs}{T:List Nat}(hg:qC g T):RE (oM K n g) T:=fun v σ H QQ ⟨a,xs,e,hs,hl,h⟩=>
 ⟨a,xs,e,hs,hl,hg.1 xs σ H _ _ (fun σ2 H2 ⟨h1,h2⟩=>h2 h1) (hg.2 xs σ H _ h)⟩
end
end DL
namespace L2
open PySem PySem.Spec PyProof.Rows
section
variable {X:Cx}{pins:List (Addr×Obj)}{σ:St}{H:Hp}{s:Shared}{h':Heap}
theorem Inv.turnedT {ch:List Addr}{T:Addr}{ys:List V}{t':Nat}(I:Inv X pins σ H s) (k:∀b o,b∉ch->s.heap.get? b=some o->h'.get? b=some o) (hn:∀b∈ch,H b=none)
   (hch:∀b∈ch,(b∈X.ex∨X.s₀.heap.objs.size<=b)/\b≠X.env.locals/\(∀x c,X.env.cells.lookup x=some c->c≠b)/\∀p∈X.pn++pins,p.1≠b)
   (hT:s.heap.objs.size<=T) (new:ObjOk X.prog X.w (upd H T (.tup ys)) h' T (.tup ys)):Inv X pins σ (upd H T (.tup ys)) { s with heap:=h',toks:=t' }:=by
 have hTn:H T=none:=I.hok.fresh hT
 have nch:∀b u,H b=some u->b∉ch:=fun b u e z=>by rw[hn b z] at e;cases e
 refine I.step (g':=s.gens) (d':=s.drawn) (ch:=ch) hch (fun b o _ _ hc e _=>k b o hc e) (fun b o _ _ hc e _=>⟨o.slots,k b o hc e⟩) (fun b o hc e n=>?_)
   (fun b o hc e=>⟨o,k b o hc e⟩) (fun b xs e=>?_) (fun b o u e=>?_) (fun b ps e=>⟨#[],?_⟩) (fun m hm=>?_) (fun b u e=>?_) I.bare
 · rw[AM (zC (zP (zM e) hT))];exact n
 · rw[AM (B2 e hTn)];exact e
 · rw[AM (B2 e hTn)];exact e
 · rw[AM (B2 e hTn),e];simp
 · obtain⟨o,es,ep,ho,r⟩:=hm
   exact⟨o,es,ep,k _ o (fun z=>(hch _ z).2.1 rfl) ho,r⟩
 · by_cases hb:b=T
   · subst hb;rw[AK] at e;cases e;exact new
   · rw[AM hb] at e
     refine(I.hok b u e).stay (fun c v hc q=>k c v ?_ q) (fun c q=>by rw[AM (B2 q hTn)];exact q) fun c xs q=>by rw[AM (B2 q hTn)];exact q
     rcases hc with z | z
     · rw[z];exact nch b u e
     · exact nch c _ z
theorem Inv.turnedL {ch:List Addr}{t':Nat}(I:Inv X pins σ H s) (k:∀b o,b∉ch->s.heap.get? b=some o->h'.get? b=some o) (hn:∀b∈ch,H b=none)
   (hch:∀b∈ch,(b∈X.ex∨X.s₀.heap.objs.size<=b)/\b≠X.env.locals/\(∀x c,X.env.cells.lookup x=some c->c≠b)/\∀p∈X.pn++pins,p.1≠b):Inv X pins σ H { s with heap:=h',toks:=t' }:=by
 have nch:∀b u,H b=some u->b∉ch:=fun b u e z=>by rw[hn b z] at e;cases e
 refine I.step (g':=s.gens) (d':=s.drawn) (ch:=ch) hch (fun b o _ _ hc e _=>k b o hc e) (fun b o _ _ hc e _=>⟨o.slots,k b o hc e⟩) (fun b o hc e n=>n)
   (fun b o hc e=>⟨o,k b o hc e⟩) (fun b xs e=>e) (fun b o u e=>e) (fun b ps e=>⟨#[],by rw[e];simp⟩) (fun m hm=>?_) (fun b u e=>?_) I.bare
 · obtain⟨o,es,ep,ho,r⟩:=hm
   exact⟨o,es,ep,k _ o (fun z=>(hch _ z).2.1 rfl) ho,r⟩
 · refine(I.hok b u e).stay (fun c v hc q=>k c v ?_ q) (fun c q=>q) fun c xs q=>q
   rcases hc with z | z
   · rw[z];exact nch b u e
   · exact nch c _ z
theorem tI {a z:Addr}{xs:List V}(I:Inv X pins σ H s) (hf:LT X pins H z) (h:SqL X.K H a xs):a≠z:=by
 rintro rfl
 rcases h with h | ⟨o,its,n,hk,_⟩
 · rcases h with h | ⟨o',h⟩ <;> rw[hf.1] at h <;> cases h
 · have e:=I.ok.mod.kin a o hk
   rcases hf.2.2.2.1 with z | z
   · exact I.ok.noex a o e z
   · exact absurd (zP (zM e) (zN I.ok.bsz z)) (yF _)
end
end L2
namespace DL
open PySem PySem.Spec L2
section
variable {K:Frg}{M:Own}{ρ:List (Option DS)}{QI:List PyData->Own->Prop}
def Y1 (as bs:List PyData):List PyData:=(as.zip bs).map fun p=>.tuple [p.1,p.2]
end
end DL
namespace HT
open PySem PySem.Spec PyProof.Rows
section
variable {prog:Program}{w:World}{A:Around}{E:Value->Shared->Prop}{s:Shared}
theorem getItem_tuple_whole {t sl:Addr}{items:Array Value}{vl vu:Value}{lo hi:Option Int}{Q:Value->Shared->Prop}(ht:IsTup s.heap t items) (hs:s.heap.IsSliceOf sl vl vu .none) (pl:IsPart vl lo) (pu:IsPart vu hi)
   (hw:sIx items.size 0 lo=0/\sIx items.size items.size hi=items.size) (h:Q (.ref t) s):wpAny (model prog w) A (getItem (.ref t) (.ref sl)) Q E s:=by
 obtain⟨os,hos,hcs,hds⟩:=id hs
 have hTs:s.TypeIs (.ref sl) "slice" := ⟨os,hos,hcs⟩
 unfold getItem
 try with_reducible refine wpAny_holding ?_
 first | refine zZ (zY ?_) | skip
 refine zZ (wpAny_sequenceKey ht.typeIs (by decide) ?_)
 refine zZ (wpAny_callSpecial?_slot (name:=a0Q "__getitem__") ht.typeIs a6V
   (wpAny_call_entry a6V ht.typeIs entry_tuple_getitem ?_ (args_tuple_getitem _ _)))
 show wpAny _ _ (Builtin.Tuple.tupleItemsOf (.ref t) >>= _) _ _ s
 refine zZ (tupleItemsOf_ ht ?_)
 refine zZ (wpAny_typeOf hTs ?_)
 rw[if_pos (by decide)]
 refine zZ (HH hs pl pu ?_)
 have hno:((((sIx items.size 0 lo:Nat):Int)==0&&(1:Int)==1&&(sIx items.size items.size hi - sIx items.size 0 lo)==items.size)=true):=by
   rw[hw.1,hw.2];simp
 show wpAny _ _ (if (((sIx items.size 0 lo:Nat):Int)==0&&(1:Int)==1&&(sIx items.size items.size hi - sIx items.size 0 lo)==items.size)=true then _ else _) _ _ s
 rw[if_pos hno]
 refine zZ (m:=Builtin.Tuple.tupleIsExact _) (zZ (wpAny_typeOf ht.typeIs (zY ?_)))
 show wpAny _ _ (if true=true then _ else _) _ _ s
 rw[if_pos rfl]
 first
   | exact zZ (wpAny_rule (zZ (zY ⟨_,rfl,zY h⟩)))
   | exact zZ (wpAny_rule (zY ⟨_,rfl,zY h⟩))
   | exact zZ (wpAny_rule (zZ (zY (zY ⟨_,rfl,zY h⟩))))
end
end HT
namespace L2
open PySem PySem.Spec PyProof.Rows
section
variable {X:Cx}
def tJ (K:Frg):V->Option Int->Option Int->Hp->VK->Prop:=fun x lo hi H Q=>∃a xs,x = .ref a/\SqT K H a xs/\(LU xs lo hi=xs->Q (.ref a) H)/\∀p,H p=none->Q (.ref p) (upd H p (.tup (LU xs lo hi)))
theorem qD:SlR X (tJ X.K):=by
 intro pins s σ H x v vl vu lo hi sl Q I rx hs pl pu h
 obtain⟨a,xs,rfl,hx,q1,q2⟩:=h
 cases rx
 obtain⟨its,r,ht,hz⟩:=I.tuple hx
 have hlen:its.toArray.size=xs.length:=by rw[zJ];exact r.length.symm
 by_cases hw:HT.sIx xs.length 0 lo=0/\HT.sIx xs.length xs.length hi=xs.length
 · refine⟨"tuple", _,PyProof.Rows.slot_tuple_getitem.lookup,ht.typeIs,?_⟩
   refine HT.getItem_tuple_whole ht hs pl pu (by rw[hlen];exact hw) ⟨.ref a,H,I,rfl,q1 ?_⟩
   unfold LU
   rw[hw.1,hw.2];simp
 · exact uT pins s σ H (.ref a) (.ref a) vl vu lo hi sl Q I rfl hs pl pu ⟨a,xs,rfl,hx,hw,q2⟩
def kW (K:Frg):R2:=fun x y H Q=>∃a b xs ys,x = .ref a/\y = .ref b/\SqT K H a xs/\SqT K H b ys/\xs.length+ys.length<=sizeLine /\
 (xs=[]->Q (.ref b) H)/\(ys=[]->Q (.ref a) H)/\(∀p,H p=none->Q (.ref p) (upd H p (.tup (xs++ys))))
theorem kX:OpR X (binaryOp .Add) (kW X.K):=by
 intro pins s σ H x y v u Q I rx ry h
 obtain⟨t,b,xs,ys,rfl,rfl,hx,hy,hz,q0,q1,q2⟩:=h
 cases rx
 cases ry
 obtain⟨its,r,ht,_⟩:=I.tuple hx
 obtain⟨its2,r2,hb,_⟩:=I.tuple hy
 have e1:=r.length
 have e2:=r2.length
 obtain⟨⟨cls,dd,data,sl⟩,ho,hc,n,hd⟩:=id ht
 obtain⟨⟨cls2,dd2,data2,sl2⟩,ho2,hc2,n2,hd2⟩:=id hb
 dsimp only at hc hd hc2 hd2
 subst hc hd hc2 hd2
 have e:its.toArray++its2.toArray=(its++its2).toArray:=by simp
 by_cases hv:its=[]
 · have hx0:xs=[]:=by cases r with | nil=>rfl | cons _ _=>cases hv
   exact concat_meets ⟨_,ho,rfl⟩ ⟨_,ho2,rfl⟩ noFill_tuple_add seq_tuple_add c0Z b9Q (b7W _ _)
     (tuple_addW0 t b its.toArray its2.toArray n n2 dd dd2 sl sl2 (by simp[hv])) ⟨ho,ho2,⟨.ref b,H,I,rfl,q0 hx0⟩⟩
 · by_cases hw:its2=[]
   · have hy0:ys=[]:=by cases r2 with | nil=>rfl | cons _ _=>cases hw
     exact concat_meets ⟨_,ho,rfl⟩ ⟨_,ho2,rfl⟩ noFill_tuple_add seq_tuple_add c0Z b9Q (b7W _ _)
       (tuple_addW1 t b its.toArray its2.toArray n n2 dd dd2 sl sl2 (by simpa using hv) (by simp[hw])) ⟨ho,ho2,⟨.ref t,H,I,rfl,q1 hy0⟩⟩
   · refine concat_meets ⟨_,ho,rfl⟩ ⟨_,ho2,rfl⟩ noFill_tuple_add seq_tuple_add c0Z b9Q (b7W _ _)
       (tuple_addW2 t b its.toArray its2.toArray n n2 dd dd2 sl sl2 (by simpa using hv) (by simpa using hw) (by rw[zJ,zJ];omega)) ⟨ho,ho2,?_⟩
     rw[e]
     refine⟨.ref s.heap.objs.size,_,I.laid (t':=s.toks) (o:=.tup (xs++ys)) (fun b ob q=>zW _ q) (zR _) ?_,rfl,q2 _ I.fresh⟩
     exact⟨by rw[yY];exact hz,its++its2,r.append r2,IsTup.new _ _⟩
end
end L2
namespace DL
open PySem PySem.Spec L2
section
variable {X:Cx}{K:Frg}
def Y2 (K:Frg):R2:=fun x y H Q=>XZ K x y H Q∨kW K x y H Q
theorem A0T (h:X.K=K):OpR X (binaryOp .Add) (Y2 K):=h▸pS.or kX
def qE (K:Frg):V->Option Int->Option Int->Hp->VK->Prop:=fun x lo hi H Q=>pT K x lo hi H Q∨tJ K x lo hi H Q
theorem A0x (h:X.K=K):SlR X (qE K):=h▸w8.or qD
end
section
variable {K:Frg}{M:Own}{Q:DS->Own->Prop}
theorem kY {i j:Int}(q:Q (.d (.int (i+j))) M):D2 K (Y2 K) (.d (.int i)) (.d (.int j)) M Q:=FW (kH q)
theorem RG {i j:Str}(hz:i.length+j.length<=sizeLine) (q:Q (.d (.str (i++j))) M):D2 K (Y2 K) (.d (.str i)) (.d (.str j)) M Q:=FW (kI hz q)
theorem DK {a b:List PyData}(hz:a.length+b.length<=sizeLine) (q:Q (.d (.list (a++b))) M):D2 K (Y2 K) (.d (.list a)) (.d (.list b)) M Q:=FW (kJ hz q)
theorem FX {as bs:List PyData}(hz:as.length+bs.length<=sizeLine) (q:Q (.d (.tuple (as++bs))) M):D2 K (Y2 K) (.d (.tuple as)) (.d (.tuple bs)) M Q:=ID fun H v u QQ oa s1 s2 k=>by
 have s1':=s1
 have s2':=s2
 unfold SI DV at s1 s2
 obtain⟨a,vs,rfl,hl,hd⟩:=s1
 obtain⟨b,us,rfl,hl2,hd2⟩:=s2
 refine⟨a,b,vs,us,rfl,rfl,hl.sq,hl2.sq,by rw[hd.length,hd2.length];exact hz,fun e=>?_,fun e=>?_,fun p hp=>?_⟩
 · have:as=[]:=by have:=hd.length;rw[e] at this;exact List.length_eq_zero_iff.mp this.symm
   subst this
   exact k _ H (.d (.tuple ([]++bs))) M oa s2' Step.refl q
 · have:bs=[]:=by have:=hd2.length;rw[e] at this;exact List.length_eq_zero_iff.mp this.symm
   subst this
   rw[a2W] at q
   exact k _ H (.d (.tuple as)) M oa s1' Step.refl q
 · have g:Grow K M.W M.W H (upd H p (.tup (vs++us))):=AW _ hp
   refine k _ _ (.d (.tuple (as++bs))) M (oa.new hp) ?_ ⟨g⟩ q
   unfold SI DV
   exact⟨p,_,rfl,.inl ⟨fun w=>w (oa.none hp),.inl AK⟩,(hd.append hd2).grow g⟩
theorem MV {z:Str}{lo hi:Option Int}(hz:z.length<=sizeLine) (q:Q (.d (.str (a1X z lo hi))) M):DSl K (qE K) (.d (.str z)) lo hi M Q:=fun H v QQ oa s1 k=>.inl (kK hz q H v QQ oa s1 k)
theorem CJ {ds:List PyData}{lo hi:Option Int}(q:Q (.d (.list (EJ ds lo hi))) M):DSl K (qE K) (.d (.list ds)) lo hi M Q:=fun H v QQ oa s1 k=>.inl (gG q H v QQ oa s1 k)
theorem BX {ds:List PyData}{lo hi:Option Int}(q:Q (.d (.tuple (EJ ds lo hi))) M):DSl K (qE K) (.d (.tuple ds)) lo hi M Q:=fun H v QQ oa s1 k=>.inr (by
 have s1':=s1
 unfold SI DV at s1
 obtain⟨a,vs,rfl,hl,hd⟩:=s1
 have key:DVs K H M.W (EJ ds lo hi) (LU vs lo hi):=by
   unfold EJ LU
   rw[hd.length]
   exact(hd.drop _).take _
 refine⟨a,vs,rfl,hl.sq,fun e=>?_,fun p hp=>?_⟩
 · refine k _ H (.d (.tuple (EJ ds lo hi))) M oa ?_ Step.refl q
   unfold SI DV
   exact⟨a,vs,rfl,hl,by rw[← e];rw[e] at key;rw[e];exact key⟩
 · have g:Grow K M.W M.W H (upd H p (.tup (LU vs lo hi))):=AW _ hp
   refine k _ _ (.d (.tuple (EJ ds lo hi))) M (oa.new hp) ?_ ⟨g⟩ q
   unfold SI DV
   exact⟨p,_,rfl,.inl ⟨fun w=>w (oa.none hp),.inl AK⟩,key.grow g⟩)
end
theorem Y3 {X:Cx}{K:Frg}{pos:Pos}{es:List Expr}{k:Nat}{t:TGs}{n:Nat}(hK:X.K=K) (hc:X.calm=true) (h:PGs X es t)
   (hn:(assignEach es X.env).length=n:=by rfl) (hst:(assignEach es X.env).findIdx? (·.1)=none:=by rfl):PG X (.Tuple es k pos) (oM K n t):=hK▸jF hc h hn hst
end DL
namespace DL
open PySem PySem.Spec L2
def fn1 (pre:PyData->Prop) (f:PyData->PyData):FSp:=⟨fun xs _=>∃d,xs=[.d d]/\pre d,fun xs M y M'=>∀d,xs=[.d d]->y = .d (f d)/\M'=M⟩
theorem AZ {pre:PyData->Prop}{f:PyData->PyData}{d:PyData}{M:Own}{Q:DS->Own->Prop}(p:pre d) (q:Q (.d (f d)) M):[DS.d d].length=1/\(fn1 pre f).pre [.d d] M/\∀x M',(fn1 pre f).post [.d d] M x M'->Q x M':=
 ⟨rfl,⟨d,rfl,p⟩,fun x M' h=>by obtain⟨rfl,rfl⟩:=h d rfl;exact q⟩
def GI (c:Nat):Bool:=decide (97<=c)&&decide (c<=122)
def OG:PyData->Bool | .int _=>true | _=>false
def CZ:PyData->Bool | .str z=>decide (1<=z.cps.size)&&decide (z.cps.size<=8)&&z.cps.toList.all GI | _=>false
def LY:PyData->Bool | .int i=>decide (0<=i)&&decide (i<=999) | _=>false
def okS (z:Str):Prop:=z.cps.size<=5000/\∀c∈z.cps.toList,c < 128
def okD:PyData->Prop | .str z=>okS z | _=>True
def IF:FSp:=fn1 (fun _=>True) fun d=>.bool (OG d)
def KK:FSp:=fn1 okD fun d=>.bool (CZ d)
def LZ:FSp:=fn1 (fun _=>True) fun d=>.bool (LY d)
def IG (d:PyData) (lo hi:Int):Bool:=match d with | .int i=>decide (lo<=i)&&decide (i<=hi) | _=>false
def CO:FSp:=⟨fun xs _=>∃(d:PyData) (lo hi:Int),xs=[.d d,.d (.int lo),.d (.int hi)],fun xs M y M'=>∀(d:PyData) (lo hi:Int),xs=[.d d,.d (.int lo),.d (.int hi)]->y = .d (.bool (IG d lo hi))/\M'=M⟩
theorem JR {d:PyData}{lo hi:Int}{M:Own}{Q:DS->Own->Prop}(q:Q (.d (.bool (IG d lo hi))) M):[DS.d d,.d (.int lo),.d (.int hi)].length=3/\CO.pre [.d d,.d (.int lo),.d (.int hi)] M/\∀x M',CO.post [.d d,.d (.int lo),.d (.int hi)] M x M'->Q x M':=
 ⟨rfl,⟨d,lo,hi,rfl⟩,fun x M' h=>by obtain⟨rfl,rfl⟩:=h d lo hi rfl;exact q⟩
theorem W3 (d:PyData):IG d 0 999=LY d:=by cases d <;> rfl
theorem aY:∀c:Nat,c < 128->(!(a5J (a0Q "abcdefghijklmnopqrstuvwxyz") ⟨#[c]⟩ 0 (a0Q "abcdefghijklmnopqrstuvwxyz").length 1).isEmpty)=GI c:=by decide +kernel
def qF:PyData->Bool | .str z=>z.cps.toList.all GI | _=>false
theorem gI (z:Str):((CB z).filter fun _=>true).map (fun d=>b5J (qF d))=(z.cps.toList.map GI).map .bool:=by
 rw[List.filter_eq_self.mpr (by simp)]
 unfold CB
 rw[zD,zD]
 apply yM
 intro c hc
 simp[qF]
theorem aZ (l:List Nat) (f:Nat->Bool):(l.map f).all id=l.all f:=by simp
section
variable {K:Frg}{ρ:List (Option DS)}{M:Own}{D:EndsD}{t u:TS}
theorem RH (P:List (Option DS)->Own->Prop) (h:DSt K t ρ M { D with nx:=P }) (h2:∀ρ1 M1,P ρ1 M1->DSt K u ρ1 M1 D):DSt K (u8 t u) ρ M D:=
 k9 (pK h (fun ρ' M' p=>h2 ρ' M' p) (fun _ _ q=>q) (fun _ _ q=>q) (fun _ _ q=>q))
end
def AH (z:Str):Prop:=1<=z.cps.size/\z.cps.size<=8/\∀c∈z.cps.toList,GI c=true
theorem A0y {M:Own}{a:Addr}{ds:List PyData}{k:Int}{j:Nat}{F:Addr->List PyData->Nat->Prop}(m:M a=some (.l ds)) (e:ixN ds.length k=some j) (q:F a ds j) :
   ∃a' ds' k' j',DS.loc a = .loc a'/\DS.d (.int k) = .d (.int k')/\M a'=some (.l ds')/\ixN ds'.length k'=some j'/\F a' ds' j':=⟨a,ds,k,j,rfl,rfl,m,e,q⟩
theorem A0z {xs:List DS}{ds:List PyData}{Q:List PyData->Prop}(e:TL xs=some ds) (h:ds.length<=sizeLine) (q:Q ds):∃ds,TL xs=some ds/\ds.length<=sizeLine/\Q ds:=⟨ds,e,h,q⟩
theorem qG {x y:Str}(h:x.cps.toList=y.cps.toList):x=y:=by
 obtain⟨⟨a⟩⟩:=x
 obtain⟨⟨b⟩⟩:=y
 simp at h
 subst h
 rfl
theorem kZ (n len:Nat):a3W none (some (n:Int)) 1 len=a1Q (min n len):=by
 unfold a3W sliceRange
 have h1:¬((n:Int) < 0):=by omega
 have h2:max 0 (min (n:Int) (len:Int))=((min n len:Nat):Int):=by omega
 simp only[show(1:Int) > 0 by decide,if_true,h1,if_false,h2]
 have h3:(if (0:Int) < ((min n len:Nat):Int) then (((min n len:Nat):Int) - 0+1 - 1)/1 else 0).toNat=min n len:=by
   split
   · rw[Int.ediv_one];omega
   · omega
 rw[h3]
 apply b9W
 intro i
 rw[zF]
 by_cases h:i < min n len
 · simp[yA h]
 · simp[a0V (show(a1Q (min n len)).length<=i by simp;omega)]
theorem gJ (l:List Nat) (a:Array Nat) (m:Nat) (h:a.toList=l):(a1Q m).filterMap (fun i=>a[i]?)=l.take m:=by
 induction m with
 | zero=>simp
 | succ m ih=>
   rw[List.range_succ,List.filterMap_append,ih,a5Q]
   have e:a[m]?=l[m]?:=by rw[← h];simp
   simp only[a6K,List.filterMap_nil,e]
   cases l[m]? <;> simp
theorem IH (z:Str) (n:Nat):(a1X z none (some (n:Int))).cps.toList=z.cps.toList.take n:=by
 unfold a1X
 rw[kZ]
 have hl:z.length=z.cps.toList.length:=by simp[Str.length]
 split
 · rename_i h
   simp only[xZ,beq_self_eq_true,Bool.true_and,beq_iff_eq] at h
   rw[a9W (by rw[← hl];omega)]
 · show(List.filterMap _ _).toArray.toList=_
   rw[gJ z.cps.toList z.cps _ rfl,List.toList_toArray,hl,b4J]
   omega
theorem gK {z:Str}{n:Nat}{c:Nat}(h:c∈(a1X z none (some (n:Int))).cps.toList):c∈z.cps.toList:=by
 rw[IH] at h;exact a8K h
theorem AT (x y:Str):(x++y).cps.toList=x.cps.toList++y.cps.toList:=by
 show(x.cps++y.cps).toList=_
 simp
theorem JS:(a0Q "abcdefghijklmnopqrstuvwxyz").length=26:=by decide +kernel
theorem l0 {M:Own}{p A:Addr}{o o' x y:MO}(h:p≠A):(((M.put p o).put A x).put p o').put A y=(M.put p o').put A y:=by
 funext b
 unfold Own.put
 by_cases h1:b=A
 · simp[h1]
 · by_cases h2:b=p
   · simp[h2,h1,h]
   · simp[h1,h2]
theorem flt (l:List PyData):l.filter (fun _=>true)=l:=List.filter_eq_self.mpr (by simp)
theorem gL (z:Str):(CB z).length=z.cps.size:=by simp[CB]
theorem l3:(a0Q "abcdefghijklmnopqrstuvwxyz").cps.size=26:=by decide +kernel
theorem UL (z:Str) (l u:Option Int) {n:Nat}(h:z.length<=n):(a1X z l u).length<=n:=zN (Txt.slice_le z l u) h
theorem l4 {c:Nat}(h:GI c=true):c < 128:=by
 unfold GI at h;simp at h;omega
theorem UM (s:Str):CZ (.str s)=(decide (1<=s.cps.size)&&decide (s.cps.size<=8)&&s.cps.toList.all GI):=rfl
theorem OH (s:Str):s.cps.size=s.cps.toList.length:=by simp
theorem Y4 {z:Str}(h:AH z):okD (.str z):=⟨by have:=h.2.1;omega,fun c hc=>l4 (h.2.2 c hc)⟩
end DL
namespace DL
open PySem PySem.Spec L2
def sl (a b:Str):Bool:=b2J a.cps.toList b.cps.toList
theorem UN:∀a:List Nat,b2J a a=false
 | []=>rfl
 | a::r=>by simp[b2J,UN r]
theorem Y5:∀a b c:List Nat,b2J a b=true->b2J b c=true->b2J a c=true
 | [],[],_,h,_=>by cases h
 | [],_::_,[],_,h=>by cases h
 | [],_::_,_::_,_,_=>rfl
 | _::_,[],_,h,_=>by cases h
 | _::_,_::_,[],_,h=>by cases h
 | a::r,b::t,c::u,h1,h2=>by
   simp only[b2J,b6K,decide_eq_true_eq,a0W,beq_iff_eq] at h1 h2 ⊢
   rcases h1 with h1 | ⟨rfl,h1⟩
   · rcases h2 with h2 | ⟨rfl,h2⟩
     · exact .inl (xQ h1 h2)
     · exact .inl h1
   · rcases h2 with h2 | ⟨rfl,h2⟩
     · exact .inl h2
     · exact .inr ⟨rfl,Y5 r t u h1 h2⟩
theorem Y6:∀a b:List Nat,b2J a b=false->b2J b a=false->a=b
 | [],[],_,_=>rfl
 | [],_::_,h,_=>by cases h
 | _::_,[],_,h=>by cases h
 | a::r,b::t,h1,h2=>by
   simp only[b2J,Bool.or_eq_false_iff,decide_eq_false_iff_not,Bool.and_eq_false_iff] at h1 h2
   have e:a=b:=by omega
   subst e
   simp at h1 h2
   rw[Y6 r t h1 h2]
theorem UO (a:Str):sl a a=false:=UN _
theorem RI {a b c:Str}(h1:sl a b=true) (h2:sl b c=true):sl a c=true:=Y5 _ _ _ h1 h2
theorem RJ {a b:Str}(h1:sl a b=false) (h2:sl b a=false):a=b:=qG (Y6 _ _ h1 h2)
theorem Y7 {a b:Str}(h:sl a b=true):sl b a=false:=by
 cases e:sl b a with
 | false=>rfl
 | true=>have:=RI h e;rw[UO] at this;cases this
theorem A0U (a b:Str):decide (a.cps.toList < b.cps.toList)=sl a b:=PyProof.Rows.lt_meets a b
def Ris (ss:List Str):Prop:=ss.Pairwise fun a b=>sl a b=true
theorem gM:∀ss:List Str,xG ss=true->ss.Pairwise fun a b=>sl b a=false
 | [],_=>.nil
 | a::r,h=>by
   have key:∀(r:List Str) (p:Str),PyProof.Rows.risingS p r=true->(p::r).Pairwise fun a b=>sl b a=false:=by
     intro r
     induction r with
     | nil=>intro p _;simp
     | cons x r ih=>
       intro p h
       unfold PyProof.Rows.risingS at h
       simp only[a0W,Bool.not_eq_true'] at h
       have h2:=ih x h.2
       refine List.pairwise_cons.mpr ⟨fun c hc=>?_,h2⟩
       have hx:sl x p=false:=h.1
       rcases yX.mp hc with rfl | hc
       · exact hx
       · have hcx:sl c x=false:=(List.pairwise_cons.mp h2).1 c hc
         cases e:sl c p with
         | false=>rfl
         | true=>
           cases e2:sl x c with
           | true=>have:=RI e2 e;rw[hx] at this;cases this
           | false=>have:=RJ hcx e2;subst this;rw[hx] at e;cases e
   exact key r a h
theorem bA {ss:List Str}(h:xG ss=true) (nd:ss.Nodup):Ris ss:=by
 unfold Ris
 have h1:=gM ss h
 refine(List.Pairwise.and h1 nd).imp fun {a b} ⟨x,y⟩=>?_
 cases e:sl a b with
 | true=>rfl
 | false=>exact absurd (RJ e x) y
theorem Ris.nodup {ss:List Str}(h:Ris ss):ss.Nodup:=h.imp fun {a b} q=>by rintro rfl;rw[UO] at q;cases q
theorem FQ {d:PyData}(h1:d.canLay0=true) (h2:d.depth<=64):zH d=true:=by
 unfold zH;rw[h1,decide_eq_true h2];rfl
theorem bB {ds:List PyData}(h:∀d∈ds,d.canLay0=true):b8J ds=true:=by
 induction ds with
 | nil=>rfl
 | cons d r ih=>rw[b8J,h d a1W,ih fun x hx=>h x (yV _ hx)];rfl
theorem bC {ds:List PyData}{n:Nat}(h:∀d∈ds,d.depth<=n):a6J ds<=n:=by
 induction ds with
 | nil=>simp[a6J]
 | cons d r ih=>
   have h1:=h d a1W
   have h2:=ih fun x hx=>h x (yV _ hx)
   simp only[a6J];omega
theorem FY {z:Str}(h:AH z):b7X z=true:=by
 unfold b7X
 rw[Array.all_eq_true']
 intro c hc
 have:=l4 (h.2.2 c (by simpa using hc))
 simp;omega
theorem Q5 (ys:List Str):a0X (.list (ys.map .str)) (.list [])=ys.isEmpty:=by
 cases ys with
 | nil=>rfl
 | cons y r=>simp[a0X,PyData.eqvAll]
theorem RK:∀c∈(a0Q "abcdefghijklmnopqrstuvwxyz").cps.toList,GI c=true:=by decide +kernel
theorem bD:(a0Q "abcdefghijklmnopqrstuvwxyz").cps.toList.Nodup:=by decide +kernel
end DL
namespace DL
open PySem PySem.Spec L2
theorem sIx_nat (n d k:Nat):HT.sIx n d (some (k:Int))=min k n:=HT.sIx_nat n d k
theorem JT (xs:List PyData) (k:Nat):EJ xs (some (k:Int)) none=xs.drop k:=by
 unfold EJ
 rw[sIx_nat]
 show(xs.drop (min k xs.length)).take (xs.length - min k xs.length)=_
 rw[a9W (by rw[a5W];omega)]
 by_cases h:k<=xs.length
 · rw[a4Z h]
 · rw[b4V (by omega),a3X (zR _),a3X (by omega)]
theorem OI (xs:List PyData) (k:Nat):EJ xs none (some (k:Int))=xs.take k:=by
 unfold EJ
 rw[sIx_nat]
 show(xs.drop 0).take (min k xs.length - 0)=_
 rw[List.drop_zero,Nat.sub_zero,b4J];omega
theorem QO (xs:List PyData) (a b:Nat):EJ xs (some (a:Int)) (some (b:Int))=(xs.take b).drop a:=by
 unfold EJ
 rw[sIx_nat,sIx_nat,List.drop_take]
 by_cases h:a<=xs.length
 · rw[a4Z h,b4J,a5W];omega
 · rw[a3X (show xs.length<=min a xs.length by omega),a3X (show xs.length<=a by omega)];simp
def fn2 (pre:PyData->PyData->Prop) (f:PyData->PyData->PyData):FSp:=⟨fun xs _=>∃a b,xs=[.d a,.d b]/\pre a b,fun xs M y M'=>∀a b,xs=[.d a,.d b]->y = .d (f a b)/\M'=M⟩
theorem l5 {pre:PyData->PyData->Prop}{f:PyData->PyData->PyData}{a b:PyData}{M:Own}{Q:DS->Own->Prop}(p:pre a b) (q:Q (.d (f a b)) M):[DS.d a,.d b].length=2/\(fn2 pre f).pre [.d a,.d b] M/\∀x M',(fn2 pre f).post [.d a,.d b] M x M'->Q x M':=
 ⟨rfl,⟨a,b,rfl,p⟩,fun x M' h=>by obtain⟨rfl,rfl⟩:=h a b rfl;exact q⟩
def A00:PyData->PyData | .tuple (a::_)=>a | d=>d
def RL:PyData->Str | .str z=>z | _=>⟨#[]⟩
def nm0 (d:PyData):Str:=RL (A00 d)
abbrev Th:=Str×Int×Int
def thD (t:Th):PyData:=.tuple [.str t.1,.int t.2.1,.int t.2.2]
def wD (w:List Th):PyData:=.tuple (w.map thD)
theorem UP {d:PyData}(h:CZ d=true):∃z,d = .str z/\AH z:=by
 cases d with
 | str z=>
   rw[UM] at h
   simp only[a0W,decide_eq_true_eq,b1W] at h
   exact⟨z,rfl,h.1.1,h.1.2,h.2⟩
 | _=>cases h
theorem Y8 {z:Str}(h:AH z):CZ (.str z)=true:=by
 rw[UM,decide_eq_true h.1,decide_eq_true h.2.1,List.all_eq_true.mpr h.2.2];rfl
theorem qH (w:List Th):(w.map thD).map nm0=w.map (·.1):=by rw[zD];rfl
end DL
namespace DL
open PySem PySem.Spec L2
section
variable {K:Frg}{ρ:List (Option DS)}{M:Own}{g:TG}{wi:TI}
theorem II {fr:List (Option Nat)}{tt:TT}{te:TE}{T:List Nat}{Q:DS->Own->Prop}(ho:RE g T) (hT:∀i∈T,∀j,fr[i]?≠some (some j))
   (h:DI K wi ρ M fun ds M1=>ds.length < sizeLine/\∃(c:PyData->Bool) (f:PyData->PyData),(∀d∈ds,∀A acc M',M1 A=none->M'=M1.put A (.l acc)->DG K g d (L7 fr ρ) M' fun ρ2 M2=>M2=M'/\DT K tt ρ2 M2 fun b M3=>M3=M'/\b=c d/\(c d=true->DE K te ρ2 M3 fun y M4=>y = .d (f d)/\M4=M'))/\Q (.d (.list ((ds.filter c).map f))) M1) :
   DE K (UJ fr wi g tt te) ρ M Q:=by
 refine VW ho hT fun σ H R Rl k=>h σ H R Rl fun J ds H1 M1 o1 t1 wd q=>k J ds H1 M1 o1 t1 wd ?_
 obtain⟨hsz,c,f,he,q⟩:=q
 refine⟨hsz,fun A hA=>⟨fun k acc M'=>acc=((ds.take k).filter c).map f/\M'=M1.put A (.l acc),⟨by simp,rfl⟩,fun k acc M' ⟨e1,e2⟩=>⟨by rw[e2];exact zU,?_⟩,fun k d acc M' hd ⟨e1,e2⟩=>?_,fun acc M' ⟨e1,e2⟩=>?_⟩⟩
 · rw[e1,zX]
   exact zN (yJ _ _) (by rw[a0J];omega)
 · have hm:d∈ds:=yN hd
   intro σ H v QQ R dv kk
   refine he d hm A acc M' hA e2 σ H v QQ R dv fun ρ' M2 σ' H' R' st ⟨eM,q2⟩=>kk ρ' M2 σ' H' R' st fun σ2 H2 QQ2 R2 k2=>?_
   refine q2 σ2 H2 QQ2 R2 fun b H3 M3 o3 st3 ⟨eM3,eb,q3⟩=>k2 b H3 M3 o3 st3 ?_
   have ts:(ds.take (k+1)).filter c=(ds.take k).filter c++(if c d then [d] else []):=take_succ_filter c ds k d hd
   cases hb:c d with
   | false=>
     rw[hb] at eb
     subst eb
     refine L2.p6 ⟨?_,by rw[eM3,e2]⟩
     rw[ts,hb,e1];simp
   | true=>
     rw[hb] at eb
     subst eb
     refine L2.p7 ?_
     refine dG (q3 hb) fun y M4 ⟨ey,e4⟩=>⟨f d,ey,by rw[e4,e2];exact zU,?_,by rw[e4,e2,yI]⟩
     rw[ts,hb,e1];simp
 · rw[e2,yG hA,e1,a5K]
   exact q
end
theorem Y9 {as bs:List Str}(h:as.map a0K=bs.map a0K):as=bs:=by
 have:=congrArg (List.map RL) h
 rw[zD,zD] at this
 simpa [show(RL∘a0K)=id from rfl] using this
theorem JU {K:Frg}{ρ:List (Option DS)}{M:Own}{D:EndsD}{te:TE}{g:TG}(h:DE K te ρ M fun x M1=>∃d,x = .d d/\DG K g d ρ M1 D.nx):DSt K (jG te g) ρ M D:=fun σ H E R k1 _ _ _=>
 h σ H _ R fun v H' x M' a b c q=>by
   obtain⟨d,rfl,q⟩:=q
   exact q σ H' v _ (R.step a c) b fun ρ2 M2 σ2 H2 R2 st2 p=>k1 ρ2 M2 σ2 H2 R2 (c.trans st2) p
theorem l6 {X:Cx}:MtR X "list.append" VN:=UF
end DL
namespace L2
open PySem PySem.Spec PyProof.Rows
def EntS (w:World):List DictEntry->List (Str×Str)->Prop
 | [],[]=>True
 | e::es,kv::r=>e.hash=hashStr w kv.1/\(∃t,e.key = .str kv.1 t)/\(∃t,e.val = .str kv.2 t)/\EntS w es r
 | _,_=>False
def GDict (w:World) (K:Frg) (a:Addr) (kvs:List (Str×Str)):Prop:=
 (a==sysModules)=false/\(kvs.map (·.1)).Nodup/\∃es ep,K.lookup a=some { cls:=.type "dict", data:=.dict es ep }/\EntS w es.toList kvs
theorem EntS.pairs {P:Program}{w:World}:∀{es:List DictEntry}{kvs:List (Str×Str)},EntS w es kvs->∃vs:List (Key×Value),Pairs (AO P w) es vs/\KV (kvs.map fun kv=>((a1Z kv.1:Key),V.str kv.2)) vs/\vs.map (·.1)=kvs.map (fun kv=>(a1Z kv.1:Key))/\∀e∈es,∃k,(AO P w).is k e.key=true/\e.hash=(AO P w).hash k
 | [],[],_=>⟨[],.nil,.nil,rfl,by simp⟩
 | e::es,kv::r,⟨h1,⟨t,h2⟩,⟨t',h3⟩,h4⟩=>by
   obtain⟨vs,a,b,c,d⟩:=EntS.pairs (P:=P) h4
   have hk:(AO P w).is (a1Z kv.1) e.key=true:=by rw[h2];exact P3 P w kv.1 t
   refine⟨(a1Z kv.1,e.val)::vs,.cons hk rfl a,.cons ⟨rfl,⟨t',h3⟩⟩ b,by rw[zI,zI,c],fun x hx=>?_⟩
   rcases yX.mp hx with rfl | hx
   · exact⟨_,hk,h1⟩
   · exact d x hx
section
variable {X:Cx}{pins:List (Addr×Obj)}{σ:St}{H:Hp}{s:Shared}
theorem GDict.at {a:Addr}{kvs:List (Str×Str)}(g:GDict X.w X.K a kvs) (I:Inv X pins σ H s):∃vs,KV (kvs.map fun kv=>((a1Z kv.1:Key),V.str kv.2)) vs/\s.heap.DictOf (AO X.prog X.w) a vs:=by
 obtain⟨_,nd,es,ep,hk,he⟩:=g
 obtain⟨vs,p1,p2,p3,p4⟩:=he.pairs (P:=X.prog)
 refine⟨vs,p2,_,es,ep,I.kIn a _ hk,⟨rfl,rfl,rfl⟩,rfl,fun e he=>p4 e (by simpa using he),p1,?_⟩
 rw[p3]
 have:kvs.map (fun kv=>(a1Z kv.1:Key))=(kvs.map (·.1)).map a1Z:=by rw[zD];rfl
 rw[this]
 unfold List.Nodup
 rw[a3V]
 exact nd.imp fun {a b} q e=>q (by injection e)
def tK (kvs:List (Str×Str)) (ty:TE):TE:=fun σ H Q=>ty σ H fun y H1=>∃k:Str,y = .str k/\Q (((kvs.lookup k).map V.str).getD .non) H1
theorem YA (kvs:List (Str×Str)) (k:Str):E9 (kvs.map fun kv=>((a1Z kv.1:Key),V.str kv.2)) (a1Z k)=(kvs.lookup k).map V.str:=by
 induction kvs with
 | nil=>rfl
 | cons kv r ih=>
   obtain⟨a,b⟩:=kv
   unfold E9 at ih ⊢
   rw[zI,a9Q,a2J]
   by_cases h:a=k
   · subst h;simp
   · have h1:decide ((a1Z a:Key)=a1Z k)=false:=decide_eq_false fun e=>h (by injection e)
     have h2:(k==a)=false:=by simpa using fun e=>h e.symm
     simp only[h1,h2]
     exact ih
theorem qI {x:Str}{p apos cpos:Pos}{e:Expr}{ty:TE}{kvs:List (Str×Str)}(hg:Gl X x) (hm:∃a,X.mg x=some (.ref a)/\GDict X.w X.K a kvs) (he:PE X e ty) (m:M1 X (.Name x p) "get" apos e cpos) (hd:(x==("__debug__":Str))=false:=by decide) :
   PE X (.Call (.Attribute (.Name x p) "get" apos) [e] [] cpos) (tK kvs ty):=by
 obtain⟨a,hm,g⟩:=hm
 intro pins s σ H Q I h
 refine wpAny_Call_method m.base m.few m.line b8V a9V PySem.F.type_dict_get (VG I hg hm ?_ hd)
 obtain⟨vs,rel,dd⟩:=g.at I
 refine⟨dd.typeIs,fun b q=>?_,?_⟩
 · cases q
   obtain⟨ob,_,_,h1,h2,_⟩:=dd
   exact⟨ob,h1,h2.2.1⟩
 rw[m.trees]
 refine b3K rfl (b4W (xP (thn (he pins s σ H _ I h) fun iv s2 ⟨y,H2,I2,ry,k,ey,q2⟩=>b9X ?_)))
 subst ey
 obtain⟨vs',rel',dd'⟩:=g.at I2
 refine call_meetsIn a9V dd'.typeIs c0J (PySem.F.args_dict_get_2 _ _) (meets_dict_get (AO X.prog X.w) a (JO (k:=a1Z k) ry) g.1) ⟨_,dd'.mapOf,?_⟩
 refine⟨_,H2,I2.tok _,?_,q2⟩
 have:=(rel'.val (a1Z k)).getD (show RelV .non .none from rfl)
 rw[YA] at this
 exact this
end
end L2
namespace DL
open PySem PySem.Spec L2
section
variable {K:Frg}{ρ:List (Option DS)}{M:Own}{Q:DS->Own->Prop}{ty:TE}
def gN:Option Str->PyData | some z=>.str z | none=>.none
theorem qJ {kvs:List (Str×Str)}(h:DE K ty ρ M fun y M1=>∃k,y = .d (.str k)/\Q (.d (gN (kvs.lookup k))) M1):DE K (tK kvs ty) ρ M Q:=fun σ H QQ R k=>
 h σ H _ R fun v H1 x M1 o1 s1 t1 h1=>by
   obtain⟨z,rfl,q⟩:=h1
   refine⟨z,BA s1,?_⟩
   cases e:kvs.lookup z with
   | none=>rw[e] at q;exact k _ H1 (.d .none) M1 o1 (by unfold SI DV;rfl) t1 q
   | some y=>rw[e] at q;exact k _ H1 (.d (.str y)) M1 o1 HI t1 q
theorem wF {neg:Bool}{x:Str}{ys:List Str}(q:Q (.d (.bool (if neg then !decide (x∈ys) else decide (x∈ys)))) M):D2 K (rIn K neg) (.d (.str x)) (.d (.tuple (ys.map .str))) M Q:=fun H v u QQ oa s1 s2 k=>by
 rw[BA s1]
 unfold SI DV at s2
 obtain⟨a,vs,rfl,hl,hd⟩:=s2
 have e:=RD hd
 subst e
 exact⟨a,_,rfl,.inr hl.sq,rfl,by simp[L4],k _ H (.d (.bool (if neg then !decide (x∈ys) else decide (x∈ys)))) M oa (by rw[XY];exact AI) Step.refl q⟩
theorem dO {x:Str}{ys:List Str}(q:Q (.d (.bool (decide (x∈ys)))) M):D2 K (kC K) (.d (.str x)) (.d (.tuple (ys.map .str))) M Q:=ID (wF (neg:=false) q)
end
end DL
namespace L2
open PySem PySem.Spec PyProof.Rows
section
variable {X:Cx}
def W4:V->List V->Hp->VK->Prop:=fun v vs H Q=>∃x y,v = .str x/\vs=[.str y]/\Q (.bl (Txt.startswith x y)) H
theorem gQ:MtR X "str.startswith" W4:=by
 intro pins s σ H x xs v us Q I rx rv h
 obtain⟨y,z,rfl,rfl,q⟩:=h
 obtain⟨t,rfl⟩:=rx
 obtain⟨u,rfl,t',rfl⟩:=F6 rv
 exact SC.startswith ⟨.bl _,H,I,rfl,q⟩
def Q6 (z:Str) (n:Int):Str:=if (n==1||z.length==0)=true then z else ⟨(a5Z n.toNat z.cps).foldl (·++·) #[]⟩
def dP:R2:=fun x y H Q=>(rI (fun i j=>IntMulOk i j) fun i j=>.int (i*j)) x y H Q∨∃z n,x = .str z/\y = .int n/\1<=n/\n<=8/\z.length<=1000/\Q (.str (Q6 z n)) H
theorem YB (a:Array Nat):∀(n:Nat) (b:Array Nat),(List.foldl (fun x1 x2=>x1++x2) b (a5Z n a)).size=b.size+n*a.size
 | 0,b=>by simp
 | n+1,b=>by
   rw[b2Q,b6J,YB a n,Array.size_append,Nat.succ_mul];omega
theorem RM (a:Array Nat):∀(n:Nat) (b:Array Nat),(List.foldl (fun x1 x2=>x1++x2) b (a5Z n a)).toList=b.toList++(a5Z n a.toList).flatten
 | 0,b=>by simp
 | n+1,b=>by
   rw[b2Q,b6J,RM a n,b2Q];simp
theorem qK:OpR X (binaryOp .Mult) dP:=by
 intro pins s σ H x y v u Q I rx ry h
 rcases h with h | ⟨z,n,rfl,rfl,h1,h2,h3,q⟩
 · exact(opI (C:=fun i j=>IntMulOk i j) fun _ _ _ _ _ _ _ hc q=>mul_int q hc) pins s σ H x y v u Q I rx ry h
 · obtain⟨t,rfl⟩:=rx
   obtain⟨t',rfl⟩:=ry
   have hp:(2:Int) ^ 63=9223372036854775808:=by decide
   refine P.mul_str ?_ (fun _ _=>?_) (fun _ _=>?_) ?_
   · rw[decide_eq_false (Int.not_lt.mpr (Int.le_trans (by decide) h1)),decide_eq_false (Int.not_le.mpr (Int.lt_of_le_of_lt h2 (by decide)))];rfl
   · rw[hp]
     have h5:(1000:Int)<=(9223372036854775808 - 1)/n:=Int.le_ediv_of_mul_le (Int.lt_of_lt_of_le (by decide) h1) (Int.le_trans (Int.mul_le_mul_of_nonneg_left h2 (by decide)) (by decide))
     exact fun hc=>absurd (Int.lt_of_le_of_lt h5 hc) (Int.not_lt.mpr (Int.ofNat_le.mpr h3))
   · have hm:z.length*n.toNat<=1000*1000:=Nat.mul_le_mul h3 (by omega)
     unfold Builtin.Str.tooLong
     rw[decide_eq_false]
     exact fun hc=>absurd (zP hc hm) (by decide)
   · rw[if_neg (by omega)]
     have q':=q
     unfold Q6 at q'
     split
     · rename_i e
       rw[if_pos e] at q'
       exact⟨.str z,H,I,⟨_,rfl⟩,q'⟩
     · rename_i e
       rw[if_neg e] at q'
       refine⟨?_,⟨.str _,H,I.tok _,⟨_,rfl⟩,q'⟩⟩
       show(List.foldl (fun x1 x2=>x1++x2) #[] (a5Z n.toNat z.cps)).size<=sizeLine
       rw[YB]
       have hm:(#[]:Array Nat).size+n.toNat*z.cps.size<=8*1000:=by
         rw[show(#[]:Array Nat).size=0 from rfl,Nat.zero_add]
         exact Nat.mul_le_mul (by omega) h3
       exact zN hm (by decide)
end
end L2
namespace DL
open PySem PySem.Spec L2
section
variable {X:Cx}{K:Frg}
theorem YC (_:X.K=K):MtR X "str.startswith" W4:=gQ
theorem A0V (_:X.K=K):OpR X (binaryOp .Mult) dP:=qK
def tL:List V->Hp->VK->Prop:=fun xs H Q=>(∃i,xs=[.int i]/\Q (.int i) H)∨∃k,xs=[.bl k]/\Q (.int (if k then 1 else 0)) H
def dQ:List V->Hp->VK->Prop:=fun xs H Q=>∃i j,xs=[.int i,.int j]/\z6 i j/\∀p,H p=none->Q (.ref p) (upd H p (.tup [.int (i/j),.int (i % j)]))
theorem A01 (_:X.K=K):BO X (.type "int") tL:=fW
theorem qL (_:X.K=K):BO X (.builtin "divmod") dQ:=XM
end
section
variable {K:Frg}{ρ:List (Option DS)}{M:Own}{Q:DS->Own->Prop}
theorem gR {x y:Str}(q:Q (.d (.bool (Txt.startswith x y))) M):DM K W4 (.d (.str x)) [.d (.str y)] M Q:=fun H v vs QQ oa s1 s2 k=>by
 obtain⟨u,r,rfl,h1,h2⟩:=s2
 cases h2
 rw[BA s1,BA h1]
 exact⟨x,y,rfl,rfl,k _ H _ M oa AI Step.refl q⟩
theorem l7 {i j:Int}(c:IntMulOk i j) (q:Q (.d (.int (i*j))) M):D2 K dP (.d (.int i)) (.d (.int j)) M Q:=fun H v u QQ oa s1 s2 k=>by
 rw[BN s1,BN s2]
 exact .inl ⟨i,j,rfl,rfl,c,k _ H _ M oa CS Step.refl q⟩
theorem wG {z:Str}{n:Int}(h1:1<=n) (h2:n<=8) (h3:z.length<=1000) (q:Q (.d (.str (Q6 z n))) M):D2 K dP (.d (.str z)) (.d (.int n)) M Q:=fun H v u QQ oa s1 s2 k=>by
 rw[BA s1,BN s2]
 exact .inr ⟨z,n,rfl,rfl,h1,h2,h3,k _ H _ M oa HI Step.refl q⟩
theorem qM {b:Bool}(q:Q (.d (.int (if b then 1 else 0))) M):DR K tL [.d (.bool b)] M Q:=fun H vs QQ oa s k=>by
 obtain⟨v,r,rfl,h1,h2⟩:=s
 cases h2
 rw[tF h1]
 exact .inr ⟨b,rfl,k _ H _ M oa CS Step.refl q⟩
theorem gS {i j:Int}(h0:0 < j) (hj:j < 1073741824) (q:Q (.d (.tuple [.int (i/j),.int (i % j)])) M):DR K dQ [.d (.int i),.d (.int j)] M Q:=fun H vs QQ oa s k=>by
 obtain⟨v,r,rfl,h1,v2,r2,rfl,h2,h3⟩:=s
 cases h3
 rw[BN h1,BN h2]
 refine⟨i,j,rfl,⟨h0,hj⟩,fun p hp=>?_⟩
 have g:Grow K M.W M.W H (upd H p (.tup [.int (i/j),.int (i % j)])):=AW _ hp
 refine k _ _ (.d (.tuple [.int (i/j),.int (i % j)])) M (oa.new hp) ?_ ⟨g⟩ q
 unfold SI DV
 exact⟨p,_,rfl,.inl ⟨fun w=>w (oa.none hp),.inl AK⟩,DVs.cons (by unfold DV;rfl) (DVs.cons (by unfold DV;rfl) DVs.nil)⟩
theorem l8 {g:TGs}{to ti:TE}{d:PyData}{ds:List PyData}{P:List (Option DS)->Own->Prop}
   (h:DE K to ρ M fun o M1=>DE K ti ρ M1 fun i M2=>∃a xs k j,o = .loc a/\i = .d (.int k)/\M2 a=some (.l xs)/\ixN xs.length k=some j/\DGs K g ds ρ (M2.put a (.l (xs.set j d))) P) :
   DGs K (UA (yC to ti t0) g) (d::ds) ρ M P:=fun σ H vs QQ R hd kk=>by
 unfold DVs at hd
 obtain⟨v,r,rfl,h1,h2⟩:=hd
 refine⟨v,r,rfl,h σ H _ R fun w H2 y M2 o2 s2 t2 h3=>h3 σ H2 _ (R.step o2 t2) fun u H3 z M3 o3 s3 t3 h4=>?_⟩
 obtain⟨a,xs,k,j,rfl,rfl,m,hj,q⟩:=h4
 rw[BN s3]
 have e:=s2.step t3
 unfold SI at e
 subst e
 obtain⟨vs,h0,hd'⟩:=o3 a _ m
 have t23:=t2.trans t3
 obtain⟨p1,p2⟩:=OE o3 m (hd'.set j (DV.grow t23.grow h1))
 have st:=t23.trans p2
 exact⟨a,vs,k,j,rfl,rfl,h0,by rw[hd'.length];exact hj,q σ _ r _ (R.step p1 st) (DVs.grow st.grow h2) fun ρ' M' σ' H' R' st' p=>kk ρ' M' σ' H' R' (st.trans st') p⟩
end
end DL
namespace L2
open PySem PySem.Spec PyProof.Rows PySem.W
theorem W5 {ns:List Int}(h:WData.layableAll [WData.list (ns.map WData.int)]=true):∀i∈ns,xJ i<=2 ^ 20:=by
 have h1:WData.weightAll (ns.map WData.int)<=2 ^ 20:=by
   have h0:WData.layable (WData.list (ns.map WData.int))=true:=by
     unfold WData.layableAll at h
     simpa using h
   unfold WData.layable at h0
   rw[a0W] at h0
   exact of_decide_eq_true h0.2
 intro i hi
 refine zN ?_ h1
 clear h h1
 induction ns with
 | nil=>cases hi
 | cons n r ih=>
   rw[zI]
   show _<=WData.weight (.int n)+1+WData.weightAll (r.map WData.int)
   rcases yX.mp hi with rfl | hi
   · have:WData.weight (.int i)=xJ i:=rfl
     omega
   · have:=ih hi
     omega
theorem l9 {l:PySem.W.OpenLaw}{n k:Nat}{q:Program}{loose:List Str}{XP:(Str->Option Value)->Heap->Prop}{YP:World->Heap->Prop}{d:DefRec}{K:Params->Frg}{CX:World->CXT}{sp:World->Sp}{x:Str}
   (hn:l.most=some n) (hn2:n<=sizeLine) (hdf:d.params.defaults=[]) (hr:Room k callerA)
   (hY:∀(w:World) (h:Heap),YP w h->(K w.params).In h)
   (F:∀(w:World) (mg:Str->Option Value) (fa:Addr) (h:Heap),(K w.params).In h->h.Ns mainGlobals mg->mg d.name=some (.ref fa) ->
     ∃fd:FuncData,(∀(s:Shared) (u:Value),BindsTo s fd ⟨[u],[]⟩ [(x,u)]) /\
       ∀base:Heap,(K w.params).In base->base.Ns mainGlobals mg->FnOk l.prog w (K w.params) mg base (CX w) k fa fd [x] (sp w))
   (hsp:∀(w:World) (H:Hp) (a:Addr) (ns:List Int),ns.length<=n->(∀i∈ns,xJ i<=2 ^ 20)->v9 H->SqL (K w.params) H a (ns.map V.int)->sp w [.ref a] H (fun v _=>v = .bl true) fun _ _ _=>False)
   (hCX:∀(w:World) (H:Hp) (s:Shared) (e:Value) (s':Shared),CX w [] H s (fun _ _ _=>False) e s'->False) :
   PySem.W.WalkO q loose XP YP l.row.toRowW d [] (fun f vs=>PySem.call f vs):=by
 intro w s₀ s₁ mg mb G Y fa o pm cd doc dV kV ho hd hcd hD hmg hg args vals as hpre hlay hrd hwl hlo
 have e1:dV = .none:=Dflts.none hD hdf
 subst e1
 have e2:kV = .none:=Dflts.noKw hD
 subst e2
 obtain⟨a,vs,ns,rfl,rfl,hobj,hints,hlen⟩:=Att.script_of hn hpre hwl
 have hbits:=W5 hlay
 refine enter_call (codeAny_mono (R:=fun r s'=>r = .ok (.ret (.bool true))/\OldK s₁.heap s'.heap/\s'.os=s₁.os/\AllBare s'.gens) ?_ fun r s' hq=>?_)
 · have KX:=hY w _ Y
   obtain⟨fd,hb,hF⟩:=F w mg fa _ KX G.T.g hmg
   exact jX KX G.T.g G.T.b G.T.builtins G.T.nolimit hg hobj hints (zN hlen hn2) hr hF hb (fun H hO hS=>hsp w H a ns hlen hbits hO hS) fun H e s'=>hCX w H s₁ e s'
 · have h1:=hq.1
   subst h1
   exact⟨.inl ⟨.bool true,.bool true,[],rfl,fun _=>rfl,.bool true,Att.post_true l _,fun _=>⟨List.Pairwise.nil,fun _ hm=>(nomatch hm)⟩⟩,hq.2.1,hq.2.2.1,hq.2.2.2⟩
end L2
namespace DL
open PySem PySem.Spec L2
theorem RN (i m:Nat) (a:Array Nat):((a1Q m).map (i+·)).filterMap (fun j=>a[j]?)=(a.toList.drop i).take m:=by
 induction m with
 | zero=>simp
 | succ m ih=>
   rw[List.range_succ,xI,List.filterMap_append,ih,a5Q]
   have e:a[i+m]?=(a.toList.drop i)[m]?:=by rw[List.getElem?_drop];simp
   simp only[zI,a4J,a6K,List.filterMap_nil,e]
   cases (a.toList.drop i)[m]? <;> simp
theorem bE (n len:Nat):max 0 (min (n:Int) (len:Int))=((min n len:Nat):Int):=by
 rcases Nat.le_total n len with h | h
 · rw[a4Z h,Int.min_eq_left (Int.ofNat_le.mpr h),Int.max_eq_right (b3J _)]
 · rw[b4V h,Int.min_eq_right (Int.ofNat_le.mpr h),Int.max_eq_right (b3J _)]
theorem lA (a b:Nat):(if (a:Int) < (b:Int) then ((b:Int) - (a:Int)+1 - 1)/1 else 0).toNat=b - a:=by
 split
 · rw[Int.ediv_one];omega
 · omega
theorem lB (n len:Nat):a3W (some (n:Int)) none 1 len=(a1Q (len - min n len)).map (min n len+·):=by
 unfold a3W sliceRange
 have h1:¬((n:Int) < 0):=Int.not_lt.mpr (b3J n)
 have h2:=bE n len
 simp only[show(1:Int) > 0 by decide,if_true,h1,if_false,h2]
 have h3:(if ((min n len:Nat):Int) < (len:Int) then ((len:Int) - ((min n len:Nat):Int)+1 - 1)/1 else 0).toNat=len - min n len:=lA _ _
 rw[h3]
 apply yM
 intro i hi
 omega
theorem qN (n k len:Nat):a3W (some (n:Int)) (some (k:Int)) 1 len=(a1Q (min k len - min n len)).map (min n len+·):=by
 unfold a3W sliceRange
 have h1:¬((n:Int) < 0):=Int.not_lt.mpr (b3J n)
 have h1':¬((k:Int) < 0):=Int.not_lt.mpr (b3J k)
 have h2:=bE n len
 have h2':=bE k len
 simp only[show(1:Int) > 0 by decide,if_true,h1,h1',if_false,h2,h2']
 have h3:(if ((min n len:Nat):Int) < ((min k len:Nat):Int) then (((min k len:Nat):Int) - ((min n len:Nat):Int)+1 - 1)/1 else 0).toNat=min k len - min n len:=lA _ _
 rw[h3]
 apply yM
 intro i hi
 omega
theorem IJ (z:Str) (n:Nat):(a1X z (some (n:Int)) none).cps.toList=z.cps.toList.drop n:=by
 unfold a1X
 rw[lB]
 have hl:z.length=z.cps.toList.length:=by simp[Str.length]
 split
 · rename_i h
   rw[a0W] at h
   have h:=eq_of_beq h.2
   rw[zX,xZ] at h
   have h0:n=0∨z.cps.toList.length=0:=by rw[hl] at h;omega
   rcases h0 with rfl | h0
   · simp
   · rw[List.length_eq_zero_iff.mp h0];simp
 · show(List.filterMap _ _).toArray.toList=_
   rw[RN,List.toList_toArray,hl]
   by_cases h:n<=z.cps.toList.length
   · rw[a4Z h,a9W (by rw[a5W];exact zR _)]
   · rw[b4V (by omega),a3X (zR _),a3X (by omega)];simp
theorem gT (z:Str) (n k:Nat):(a1X z (some (n:Int)) (some (k:Int))).cps.toList=(z.cps.toList.take k).drop n:=by
 unfold a1X
 rw[qN]
 have hl:z.length=z.cps.toList.length:=by simp[Str.length]
 have key:(z.cps.toList.drop (min n z.length)).take (min k z.length - min n z.length)=(z.cps.toList.take k).drop n:=by
   rw[hl,List.drop_take]
   by_cases h:n<=z.cps.toList.length
   · rw[a4Z h,b4J,a5W]
     rcases Nat.le_total k z.cps.toList.length with h' | h'
     · rw[a4Z h']
     · rw[b4V h',Nat.min_self,b4V (Nat.sub_le_sub_right h' n)]
   · rw[a3X (show z.cps.toList.length<=min n z.cps.toList.length by omega),a3X (show z.cps.toList.length<=n by omega)];simp
 split
 · rename_i h
   rw[a0W] at h
   have h:=eq_of_beq h.2
   rw[zX,xZ] at h
   rw[← key]
   have h5:=Nat.min_le_right k z.length
   have h0:min n z.length=0∨z.cps.toList.length=0:=by
     rw[← hl]
     revert h h5
     generalize min k z.length=a
     generalize min n z.length=b
     omega
   rcases h0 with h0 | h0
   · have h6:z.cps.toList.length<=min k z.length - 0:=by rw[← hl];rw[h0] at h;exact Nat.le_of_eq h.symm
     rw[h0,List.drop_zero,a9W h6]
   · rw[List.length_eq_zero_iff.mp h0];simp
 · show(List.filterMap _ _).toArray.toList=_
   rw[RN,List.toList_toArray,key]
theorem bF {i N:Nat}(h:i < N) (hN:N<=26):i/8 < 26:=zQ (Nat.div_le_self i 8) (zP h hN)
theorem M8 (k:Nat):(1:Int)<=1+(k:Int) % 8/\1+(k:Int) % 8<=8/\1<=(1+(k:Int) % 8).toNat/\(1+(k:Int) % 8).toNat<=8:=by
 have e:(k:Int) % 8=((k % 8:Nat):Int):=rfl
 rw[e]
 have:=Nat.mod_lt k (show 8 > 0 by decide)
 clear e
 generalize k % 8=r at *
 omega
theorem A0W {i j:Nat}(h1:(1:Int)+(i:Int) % 8=1+(j:Int) % 8) (h2:i/8=j/8):i=j:=by
 have a:=Nat.div_add_mod i 8
 have b:=Nat.div_add_mod j 8
 have c:i % 8=j % 8:=by
   have:=Int.add_left_cancel h1
   exact Int.ofNat.inj this
 rw[← a,← b,h2,c]
theorem wH {t:Nat}(h:t<=26):26 - t+min t 26=26:=by rw[a4Z h,Nat.sub_add_cancel h]
theorem wI {s L:Nat}(h:s<=7):min (3+s) L - 3<=7:=zN (Nat.sub_le_sub_right (Nat.min_le_left _ _) 3) (by rw[b3Z];exact h)
def bG (z:Str):Prop:=∀c∈z.cps.toList,GI c=true
theorem RO {z:Str}(h:bG z) (h1:1<=z.cps.toList.length) (h2:z.cps.toList.length<=8):AH z:=⟨by rw[OH];exact h1,by rw[OH];exact h2,h⟩
theorem RP {a b:Str}(h1:bG a) (h2:bG b):bG (a++b):=fun c hc=>by
 rw[AT] at hc
 exact(yW.mp hc).elim (h1 c) (h2 c)
theorem YD {c:Nat}(h:GI c=true):bG ⟨#[c]⟩:=fun d hd=>by
 have:d=c:=by simpa using hd
 subst this;exact h
theorem W6 {c:Nat}{n:Int}(h1:1<=n):(Q6 ⟨#[c]⟩ n).cps.toList=a5Z n.toNat c:=by
 unfold Q6
 split
 · rename_i h
   have:n=1:=by
     rw[b6K,beq_iff_eq,beq_iff_eq] at h
     rcases h with h | h
     · exact h
     · exact absurd h (show ¬(1=0) by decide)
   subst this;rfl
 · show(List.foldl _ _ _:Array Nat).toList=_
   rw[RM]
   show []++(a5Z n.toNat [c]).flatten=_
   rw[List.nil_append]
   induction n.toNat with
   | zero=>rfl
   | succ m ih=>rw[b2Q,List.flatten_cons,ih,b2Q];rfl
end DL
namespace L2
open PySem PySem.Spec PyProof.Rows
abbrev IZ (F:List Addr) (S:Heap->Prop):Prop:=∀h h':Heap,S h->(∀c∈F,∀o,h.get? c=some o->h'.get? c=some o)->S h'
abbrev NxI (P:Program) (w:World) (A:Around) (i:Addr) (S S':Heap->Prop) (R:Value->Prop):Prop:=
 ∀(s:Shared) (Q:Value->Shared->Prop) (E:Value->Shared->Prop),S s.heap->(∀h' tk x,R x->S' h'->Heap.SameBut i s.heap h'->Q x { s with heap:=h',toks:=tk })->wpAny (model P w) A (a2K (.ref i)) Q E s
abbrev NxE (P:Program) (w:World) (A:Around) (i:Addr) (S:Heap->Prop):Prop:=
 ∀(s:Shared) (Q:Value->Shared->Prop) (E:Value->Shared->Prop),S s.heap->(∀h' e,Heap.ExtBut i s.heap h'->(∃o,h'.get? e=some o/\o.cls = .type "StopIteration")->E (.ref e) { s with heap:=h' })->wpAny (model P w) A (a2K (.ref i)) Q E s
structure ZAp (z TI TO i1 i2:Addr) (F1 F2:List Addr):Prop where
 tz:TO≠z
 az:i1≠z
 bz:i2≠z
 ta:TO≠i1
 tb:TO≠i2
 ab:i1≠i2
 f1:∀c∈F1,c≠z/\c≠TO/\c≠i2
 f2:∀c∈F2,c≠z/\c≠TO/\c≠i1
section
variable {prog:Program}{w:World}{A:Around}{E:Value->Shared->Prop}{s:Shared}{z TI TO i1 i2:Addr}{F1 F2:List Addr}{S1 S1' S2 S2':Heap->Prop}{R1 R2:Value->Prop}{a b:Value}
theorem gU {Q:Value->Shared->Prop}(D:ZAp z TI TO i1 i2 F1 F2) (t1:IZ F1 S1) (t1':IZ F1 S1') (t2:IZ F2 S2) (t2':IZ F2 S2') (n1:NxI prog w A i1 S1 S1' R1) (n2:NxI prog w A i2 S2 S2' R2)
   (hz:IsZip s.heap z TI TO .none) (hTI:IsPair s.heap TI (.ref i1) (.ref i2)) (hTO:IsPair s.heap TO a b) (h1:S1 s.heap) (h2:S2 s.heap)
   (l1:∀h,S1' h->i1 < h.objs.size) (l2:∀h,S2' h->i2 < h.objs.size)
   (hQ:∀h' tk x y,R1 x->R2 y->IsZip h' z TI TO (rawInt s.heap.objs.size)->IsPair h' TO x y->S1' h'->S2' h'->IsPair h' s.heap.objs.size x y->h'.objs.size=s.heap.objs.size+1 ->
     (∀c o,c≠z->c≠TO->c≠i1->c≠i2->s.heap.get? c=some o->h'.get? c=some o)->Q (.ref s.heap.objs.size) { s with heap:=h',toks:=tk }) :
   wpAny (model prog w) A (Builtin.«zip.__next__» ⟨[.ref z],[]⟩) (fun fin s'=>∃v,fin = .done (.ret v)/\Q v s') E s:=by
 show wpAny _ _ (field (.ref z) 2 >>= _) _ _ _
 refine zZ (wpAny_field hz rfl (x:=.bool false) rfl ?_);show wpAny _ _ (field (.ref z) 3 >>= _) _ _ _
 refine zZ (wpAny_field hz rfl (x:=.ref TI) rfl ?_);refine zZ (wpAny_seqItems hTI rfl ?_)
 show wpAny _ _ (a5X (.ref z) >>= _) _ _ _;refine zZ ?_;unfold a5X
 refine zZ (wpAny_field hz rfl (x:=.none) rfl (zY ?_));simp only[if_true];refine zZ (wpAny_rule ?_)
 refine zZ (wpAny_field hz rfl (x:=.ref TO) rfl ?_);refine zZ (wpAny_setField_rec hz (by simp) fun g1 y1 q1=>?_)
 replace y1:IsZip g1 z TI TO .ellipsis:=y1
 refine zZ ?_;simp only[List.forIn_cons,List.forIn_nil,List.zipIdx_cons,List.zipIdx_nil]
 refine zZ (zZ (wpAny_onRaise ?_));show wpAny _ _ (a2K (.ref i1) >>= _) _ _ _
 refine zZ (n1 _ _ _ (t1 _ _ h1 fun c hc o e=>q1.extBut _ _ (D.f1 c hc).1 e) fun g2 k2 x rx x2 q2=>zY ?_)
 have p2:IsPair g2 TO a b:=q2.extBut _ _ D.ta (q1.extBut _ _ D.tz hTO)
 refine zZ (wpAny_seqItems p2 rfl ?_);refine zZ (wpAny_updateSeq_pair p2 fun g3 p3 q3=>?_)
 replace p3:IsPair g3 TO x b:=p3
 refine zZ (wpAny_letGo (zY ?_));refine zZ (zZ (wpAny_onRaise ?_));show wpAny _ _ (a2K (.ref i2) >>= _) _ _ _
 refine zZ (n2 _ _ _ (t2 _ _ h2 fun c hc o e=>q3.extBut _ _ (D.f2 c hc).2.1 (q2.extBut _ _ (D.f2 c hc).2.2 (q1.extBut _ _ (D.f2 c hc).1 e))) fun g4 k4 y ry x4 q4=>zY ?_)
 have p4:IsPair g4 TO x b:=q4.extBut _ _ D.tb p3
 refine zZ (wpAny_seqItems p4 rfl ?_);refine zZ (wpAny_updateSeq_pair p4 fun g5 p5 q5=>?_)
 replace p5:IsPair g5 TO x y:=p5
 refine zZ (wpAny_letGo (zY (zY ?_)));refine zZ (wpAny_seqItems p5 rfl ?_);refine zZ (wpAny_newTuple ?_)
 have hsz:g5.objs.size=s.heap.objs.size:=by rw[q5.1,q4.1,q3.1,q2.1,q1.1]
 have y5:IsZip g5 z TI TO .ellipsis:=q5.extBut _ _ D.tz.symm (q4.extBut _ _ D.bz.symm (q3.extBut _ _ D.tz.symm (q2.extBut _ _ D.az.symm y1)))
 have k5:∀c o,c≠z->c≠TO->c≠i1->c≠i2->s.heap.get? c=some o->g5.get? c=some o:=fun c o c1 c2 c3 c4 e=>q5.extBut _ _ c2 (q4.extBut _ _ c4 (q3.extBut _ _ c2 (q2.extBut _ _ c3 (q1.extBut _ _ c1 e))))
 have x25:S1' g5:=t1' _ _ x2 fun c hc o e=>q5.extBut _ _ (D.f1 c hc).2.1 (q4.extBut _ _ (D.f1 c hc).2.2 (q3.extBut _ _ (D.f1 c hc).2.1 e))
 have x45:S2' g5:=t2' _ _ x4 fun c hc o e=>q5.extBut _ _ (D.f2 c hc).2.1 e
 have ltz:z < g5.objs.size:=zM y5
 show wpAny _ _ (b7Z (.ref z) (.ref g5.objs.size) >>= _) _ _ _;refine zZ ?_;unfold b7Z
 have y6:IsZip (g5.push { cls:=.type "tuple", data:=.seq #[x,y] }) z TI TO .ellipsis:=zW _ y5
 refine zZ (wpAny_setField_rec y6 (by simp) fun g7 y7 q7=>?_)
 replace y7:IsZip g7 z TI TO (rawInt g5.objs.size):=y7
 refine wpAny_setField_rec y7 (by simp) fun g8 y8 q8=>?_
 replace y8:IsZip g8 z TI TO (rawInt g5.objs.size):=y8
 have up:∀c o,c≠z->g5.get? c=some o->g8.get? c=some o:=fun c o c1 e=>q8.extBut _ _ c1 (q7.extBut _ _ c1 (zW _ e))
 have p8:IsPair g8 g5.objs.size x y:=q8.extBut _ _ (a8Q ltz) (q7.extBut _ _ (a8Q ltz) (yZ _ rfl))
 have s8:g8.objs.size=g5.objs.size+1:=by rw[q8.1,q7.1,a8X]
 rw[hsz] at y8 p8 s8
 refine zY ⟨_,rfl,?_⟩;show Q (.ref g5.objs.size) _;rw[hsz]
 exact hQ g8 _ x y rx ry y8 (up _ _ D.tz p5) (t1' _ _ x25 fun c hc o e=>up c o (D.f1 c hc).1 e) (t2' _ _ x45 fun c hc o e=>up c o (D.f2 c hc).1 e) p8 s8 fun c o c1 c2 c3 c4 e=>up c o c1 (k5 c o c1 c2 c3 c4 e)
theorem gV {Q:Fin->Shared->Prop}(D:ZAp z TI TO i1 i2 F1 F2) (t1:IZ F1 S1) (n1:NxE prog w A i1 S1)
   (hz:IsZip s.heap z TI TO .none) (hTI:IsPair s.heap TI (.ref i1) (.ref i2)) (hTO:IsPair s.heap TO a b) (h1:S1 s.heap)
   (hE:∀h' e tk,(∀c o,c≠z->c≠TO->c≠i1->c≠i2->s.heap.get? c=some o->h'.get? c=some o)->(∃o,h'.get? e=some o/\o.cls = .type "StopIteration")->E (.ref e) { s with heap:=h',toks:=tk }) :
   wpAny (model prog w) A (Builtin.«zip.__next__» ⟨[.ref z],[]⟩) Q E s:=by
 show wpAny _ _ (field (.ref z) 2 >>= _) _ _ _
 refine zZ (wpAny_field hz rfl (x:=.bool false) rfl ?_);show wpAny _ _ (field (.ref z) 3 >>= _) _ _ _
 refine zZ (wpAny_field hz rfl (x:=.ref TI) rfl ?_);refine zZ (wpAny_seqItems hTI rfl ?_)
 show wpAny _ _ (a5X (.ref z) >>= _) _ _ _;refine zZ ?_;unfold a5X
 refine zZ (wpAny_field hz rfl (x:=.none) rfl (zY ?_));simp only[if_true];refine zZ (wpAny_rule ?_)
 refine zZ (wpAny_field hz rfl (x:=.ref TO) rfl ?_);refine zZ (wpAny_setField_rec hz (by simp) fun g1 y1 q1=>?_)
 replace y1:IsZip g1 z TI TO .ellipsis:=y1
 refine zZ ?_;simp only[List.forIn_cons,List.forIn_nil,List.zipIdx_cons,List.zipIdx_nil]
 refine zZ (zZ (wpAny_onRaise ?_));show wpAny _ _ (a2K (.ref i1) >>= _) _ _ _
 refine zZ (n1 _ _ _ (t1 _ _ h1 fun c hc o e=>q1.extBut _ _ (D.f1 c hc).1 e) fun g2 e q2 he=>?_)
 obtain⟨oe,hoe,hce⟩:=he
 have y2:IsZip g2 z TI TO .ellipsis:=q2 _ _ D.az.symm y1
 have ez:e≠z:=fun x=>by subst x;rw[y2] at hoe;cases hoe;simp at hce
 exact wpAny_setField_rec y2 (by simp) fun g3 _ q3=>hE g3 e _ (fun c o c1 _ c3 _ x=>q3.extBut _ _ c1 (q2 _ _ c3 (q1.extBut _ _ c1 x))) ⟨oe,q3.extBut _ _ ez hoe,hce⟩
theorem gW {Q:Option Value->Shared->Prop}(D:ZAp z TI TO i1 i2 F1 F2) (t1:IZ F1 S1) (t1':IZ F1 S1') (t2:IZ F2 S2) (t2':IZ F2 S2') (n1:∀A:Around,NxI prog w A i1 S1 S1' R1) (n2:∀A:Around,NxI prog w A i2 S2 S2' R2)
   (hz:IsZip s.heap z TI TO .none) (hTI:IsPair s.heap TI (.ref i1) (.ref i2)) (hTO:IsPair s.heap TO a b) (h1:S1 s.heap) (h2:S2 s.heap)
   (l1:∀h,S1' h->i1 < h.objs.size) (l2:∀h,S2' h->i2 < h.objs.size)
   (hQ:∀h' tk x y,R1 x->R2 y->IsZip h' z TI TO (rawInt s.heap.objs.size)->IsPair h' TO x y->S1' h'->S2' h'->IsPair h' s.heap.objs.size x y->h'.objs.size=s.heap.objs.size+1 ->
     (∀c o,c≠z->c≠TO->c≠i1->c≠i2->s.heap.get? c=some o->h'.get? c=some o)->Q (some (.ref s.heap.objs.size)) { s with heap:=h',toks:=tk }) :
   wpAny (model prog w) A (pyNext (.ref z)) Q E s:=by
 have hT:s.TypeIs (.ref z) "zip" := ⟨_,hz,rfl⟩
 unfold pyNext
 exact zZ (wpAny_attempt (wpAny_callSpecial?_slot (name:=a0Q "__next__") hT F.slot_zip_next (wpAny_call_entry F.slot_zip_next hT F.entry_zip_next
   (gU D t1 t1' t2 t2' (n1 _) (n2 _) hz hTI hTO h1 h2 l1 l2 fun h' tk x y b1 b2 b3 b4 b5 b6 b7 b8 b9=>zY (hQ h' tk x y b1 b2 b3 b4 b5 b6 b7 b8 b9)) (F.args_zip_next_1 _))))
theorem gX {Q:Option Value->Shared->Prop}(hh:A.handled=none) (hz:IsZip s.heap z TI TO .none)
   (h:∀(Q':Fin->Shared->Prop) (E':Value->Shared->Prop),(∀h' e tk,(∀c o,c≠z->c≠TO->c≠i1->c≠i2->s.heap.get? c=some o->h'.get? c=some o)->(∃o,h'.get? e=some o/\o.cls = .type "StopIteration")->E' (.ref e) { s with heap:=h',toks:=tk }) ->
     ∀A':Around,A'.handled=none->wpAny (model prog w) A' (Builtin.«zip.__next__» ⟨[.ref z],[]⟩) Q' E' s)
   (hQ:∀h' tk,(∀c o,c≠z->c≠TO->c≠i1->c≠i2->s.heap.get? c=some o->h'.get? c=some o)->Q none { s with heap:=h',toks:=tk }):wpAny (model prog w) A (pyNext (.ref z)) Q E s:=by
 have hT:s.TypeIs (.ref z) "zip" := ⟨_,hz,rfl⟩
 unfold pyNext
 refine zZ (wpAny_attempt (wpAny_callSpecial?_slot (name:=a0Q "__next__") hT F.slot_zip_next (wpAny_call_entry F.slot_zip_next hT F.entry_zip_next (h _ _ (fun h' e tk hk he=>?_) _ ?_) (F.args_zip_next_1 _))))
 · obtain⟨o,ho,hc⟩:=he
   refine zZ (wpAny_isInstance (T:= "StopIteration") (b:=true) ⟨o,ho,hc⟩ isSubtype_stop ?_)
   exact zY (hQ _ _ hk)
 · exact hh
end
end L2
namespace L2
open PySem PySem.Spec PyProof.Rows
section
variable {prog:Program}{w:World}{A:Around}{E:Value->Shared->Prop}{s:Shared}
theorem lC {i:Addr}{x:Str}{t:Tok}{k c:Nat}(hx:x.cps[k]?=some c):NxI prog w A i (fun h=>h.IsStrIter i "str_ascii_iterator" x t k) (fun h=>h.IsStrIter i "str_ascii_iterator" x t (k+1)) (fun v=>RelV (.str ⟨#[c]⟩) v):=
 fun s Q E hit hQ=>wpAny_nextOf_ascii_item hit hx fun h' a b=>hQ h' _ _ ⟨_,rfl⟩ a b
theorem gY {i:Addr}{x:Str}{t:Tok}{k:Nat}(hh:A.handled=none) (hx:x.cps[k]?=none):NxE prog w A i (fun h=>h.IsStrIter i "str_ascii_iterator" x t k):=
 fun s Q E hit hE=>wpAny_nextOf_ascii_end hh hit hx hE
theorem lD {i t:Addr}{k:Nat}{items:Array Value}{y:Value}(hne:t≠i) (hx:items[k]?=some y):NxI prog w A i (fun h=>h.IsTupleIter i t k/\h.IsTuple t items) (fun h=>h.IsTupleIter i t (k+1)/\h.IsTuple t items) (fun v=>v=y):=fun s Q E hS hQ=>by
 obtain⟨hit,ht⟩:=hS
 obtain⟨o,ho,hc,hd⟩:=id hit
 obtain⟨ol,hol,hcl,nl,hdl⟩:=id ht
 unfold a2K;refine zZ (wpAny_callSpecial?_slot (name:=a0Q "__next__") hit.typeIs b1Z (wpAny_call_entry b1Z hit.typeIs F.entry_tuple_iterator_next ?_ (F.args_tuple_iterator_next_1 _)))
 show wpAny _ _ (field (.ref i) 0 >>= _) _ _ s
 refine zZ (wpAny_field ho hd (x:=.ref t) rfl ?_);show wpAny _ _ (if (a0Z t==a2V)=true then _ else _) _ _ s
 rw[if_neg (show ¬((a0Z t==a2V)=true) from nft)];show wpAny _ _ (field (.ref i) 1 >>= _) _ _ s
 refine zZ (wpAny_field ho hd (x:=.int k 0) rfl ?_);show wpAny _ _ (seqItems? (.ref t) >>= _) _ _ s
 refine zZ (wpAny_seqItems hol hdl ?_);simp only[a4Q,hx]
 refine zZ (wpAny_setField ho hd (by simp) (zY ⟨y,rfl,zY (hQ _ s.toks y rfl ⟨?_,ht.extBut (c0K ..).extBut hne⟩ (c0K ..))⟩))
 exact⟨_,Heap.get?_update_self _ ho (Obj.isFreed_of_fields (Obj.data_mapFields hd _)),(Obj.cls_mapFields ..).trans hc,by rw[Obj.data_mapFields hd];simp[rawInt]⟩
abbrev UQ (v:Value) (o:Obj) (Pre:Heap->Prop):Prop:=∀(prog:Program) (w:World) (A:Around) (E:Value->Shared->Prop) (s:Shared) (Q:Value->Shared->Prop),Pre s.heap->Q (.ref s.heap.objs.size) { s with heap:=s.heap.push o }->wpAny (model prog w) A (pyIter v) Q E s
theorem gZ {x:Str}{t:Tok}(ha:x.cps.all (· < 128)=true):UQ (.str x t) { cls:=.type "str_ascii_iterator", data:=.fields #[.str x t,.int 0 0] } (fun _=>True):=fun prog w A E s Q _ hQ=>wpAny_pyIter_ascii ha hQ
theorem qO {t:Addr}{items:Array Value}:UQ (.ref t) { cls:=.type "tuple_iterator", data:=.fields #[.ref t,.int 0 0] } (fun h=>h.IsTuple t items):=fun prog w A E s Q ht hQ=>wpAny_pyIter_tuple ht hQ
abbrev zH1 (h:Heap) (o1:Obj):Heap:=h.push o1
abbrev zH2 (h:Heap) (o1 o2:Obj):Heap:=(zH1 h o1).push o2
abbrev zH3 (h:Heap) (o1 o2:Obj):Heap:=(zH2 h o1 o2).push { cls:=.type "tuple", data:=.seq #[.ref h.objs.size,.ref (zH1 h o1).objs.size] }
abbrev zH4 (h:Heap) (o1 o2:Obj):Heap:=(zH3 h o1 o2).push { cls:=.type "tuple", data:=.seq #[.none,.none] }
abbrev zH5 (h:Heap) (o1 o2:Obj):Heap:=(zH4 h o1 o2).push { cls:=.type "zip", data:=.fields #[.none,.bool false,.bool false,.ref (zH2 h o1 o2).objs.size,.ref (zH3 h o1 o2).objs.size] }
theorem bH {v1 v2:Value}{o1 o2:Obj}{Pre1 Pre2:Heap->Prop}(n1:UQ v1 o1 Pre1) (n2:UQ v2 o2 Pre2) (st2:∀h o,Pre2 h->Pre2 (h.push o)) :
   Meets (Builtin.«zip.__new__» ⟨[.type "zip", v1,v2],[]⟩) (fun _ R s=>Pre1 s.heap/\Pre2 s.heap/\R (.ok (.ret (.ref (zH4 s.heap o1 o2).objs.size))) { s with heap:=zH5 s.heap o1 o2 }):=
 .of_wp fun prog w A R s h=>by
   obtain⟨hp,g,d,tk,os⟩:=s
   obtain⟨p1,p2,h⟩:=h
   have hsub:=sub_zip
   have p2':Pre2 (hp.push o1):=st2 _ _ p2
   wp_walk using n1 _ _ _ _ _ _ p1,n2 _ _ _ _ _ _ p2'
   exact⟨_,rfl,h⟩
theorem h7 {v1 v2:Value}{o1 o2:Obj}{Pre1 Pre2:Heap->Prop}{Q:Value->Shared->Prop}(n1:UQ v1 o1 Pre1) (n2:UQ v2 o2 Pre2) (st2:∀h o,Pre2 h->Pre2 (h.push o)) (f1:o1.isFreed=false) (f2:o2.isFreed=false) (h1:Pre1 s.heap) (h2:Pre2 s.heap)
   (h:∀h',IsZip h' (s.heap.objs.size+4) (s.heap.objs.size+2) (s.heap.objs.size+3) .none->IsPair h' (s.heap.objs.size+2) (.ref s.heap.objs.size) (.ref (s.heap.objs.size+1)) ->
     IsPair h' (s.heap.objs.size+3) .none .none->h'.get? s.heap.objs.size=some o1->h'.get? (s.heap.objs.size+1)=some o2->(∀c o,s.heap.get? c=some o->h'.get? c=some o)->Q (.ref (s.heap.objs.size+4)) { s with heap:=h' }) :
   wpAny (model prog w) A (call (.type "zip") [v1,v2]) Q E s:=by
 refine callType_new F.called_zip (by decide) (F.typeCall_zip_2 _ _) (F.newCall_zip_2 _ _) (fun obj=>F.args_object_init_3 obj _ _) F.entry_zip_new (bH n1 n2 st2) ⟨h1,h2,?_⟩
 have z1:(zH1 s.heap o1).objs.size=s.heap.objs.size+1:=a8X ..
 have z2:(zH2 s.heap o1 o2).objs.size=s.heap.objs.size+2:=by rw[a8X,z1]
 have z3:(zH3 s.heap o1 o2).objs.size=s.heap.objs.size+3:=by rw[a8X,z2]
 have z4:(zH4 s.heap o1 o2).objs.size=s.heap.objs.size+4:=by rw[a8X,z3]
 have e5:(zH5 s.heap o1 o2).get? (zH4 s.heap o1 o2).objs.size=some _:=yZ _ rfl
 have e4:(zH5 s.heap o1 o2).get? (zH3 s.heap o1 o2).objs.size=some _:=zW _ (yZ _ rfl)
 have e3:(zH5 s.heap o1 o2).get? (zH2 s.heap o1 o2).objs.size=some _:=zW _ (zW _ (yZ _ rfl))
 have e2:(zH5 s.heap o1 o2).get? (zH1 s.heap o1).objs.size=some o2:=zW _ (zW _ (zW _ (yZ _ f2)))
 have e1:(zH5 s.heap o1 o2).get? s.heap.objs.size=some o1:=zW _ (zW _ (zW _ (zW _ (yZ _ f1))))
 show _/\_
 rw[z2,z3,z4] at e5
 rw[z1,z2] at e3
 rw[z3] at e4
 rw[z1] at e2
 rw[z4]
 exact⟨⟨_,e5,rfl⟩,h _ e5 e3 e4 e1 e2 fun c o x=>zW _ (zW _ (zW _ (zW _ (zW _ x))))⟩
end
section
variable {X:Cx}{pins:List (Addr×Obj)}{σ:St}{H:Hp}{s:Shared}
theorem W7 {a z:Addr}{xs:List V}(I:Inv X pins σ H s) (hf:LT X pins H z) (h:SqT X.K H a xs):a≠z:=by
 rintro rfl
 rcases h with h | ⟨o,its,n,hk,_⟩
 · rcases h with h | ⟨o',h⟩ <;> rw[hf.1] at h <;> cases h
 · have e:=I.ok.mod.kin a o hk
   rcases hf.2.2.2.1 with z | z
   · exact I.ok.noex a o e z
   · exact absurd (zP (zM e) (zN I.ok.bsz z)) (yF _)
end
def A0X (K:Frg) (x:Str) (l2:Addr):It:=
 ⟨fun i H=>∃ys,SqT K H l2 ys/\i < x.cps.size/\i < ys.length,
  fun i H v H'=>∃p c b,H p=none/\v = .ref p/\H'=upd H p (.tup [.str ⟨#[c]⟩,b])/\x.cps[i]?=some c/\∀ys,SqT K H l2 ys->ys[i]?=some b,
  fun i H=>x.cps.size<=i⟩
theorem bI {P:Program}{w:World}{K:Frg}{elts:List Expr}{kk:Nat}{tpos:Pos}(z TI TO i1 i2:Addr) (x:Str) (t:Tok) (l2:Addr) (d1:TI≠z) (d2:TO≠z) (d3:i1≠z) (d4:i2≠z) (d5:TI≠TO) (d6:TI≠i1) (d7:TI≠i2) (d8:TO≠i1) (d9:TO≠i2) (d10:i1≠i2) :
   Turn P w K (.Tuple elts kk tpos) (A0X K x l2) [z,TI,TO,i1,i2] z (fun i h=>IsZip h z TI TO .none/\IsPair h TI (.ref i1) (.ref i2)/\(∃a b,IsPair h TO a b)/\h.IsStrIter i1 "str_ascii_iterator" x t i/\h.IsTupleIter i2 l2 i) where
 mem:=by simp
 obj:=fun i h ⟨a1,a2,⟨x,y,a3⟩,a4,a5⟩ b hb=>by
   simp only[yX,xX,or_false] at hb
   rcases hb with rfl | rfl | rfl | rfl | rfl
   · exact⟨_,a1,fun v q=>by cases q⟩
   · exact⟨_,a2,fun v q=>by cases q⟩
   · exact⟨_,a3,fun v q=>by cases q⟩
   · obtain⟨o,e,c,d⟩:=a4;exact⟨o,e,fun v q=>by rw[d] at q;cases q⟩
   · obtain⟨o,e,c,d⟩:=a5;exact⟨o,e,fun v q=>by rw[d] at q;cases q⟩
 keep:=fun i h h' ⟨a1,a2,⟨x,y,a3⟩,⟨o4,e4,r4⟩,a5⟩ k=>⟨k z (by simp) _ a1,k TI (by simp) _ a2,⟨x,y,k TO (by simp) _ a3⟩,⟨o4,k i1 (by simp) o4 e4,r4⟩,a5.at fun o e=>k i2 (by simp) o e⟩
 item:=by
   intro X hP hw hK hc i pins s σ H E I hf ⟨a1,a2,⟨x0,y0,a3⟩,a4,a5⟩ hg
   subst hP hw hK
   obtain⟨ys,hy,lx,ly⟩:=hg
   obtain⟨its2,ry,py,_⟩:=I.tuple hy
   obtain⟨v,hv,rv⟩:=ry.get (zV ly)
   have hx:x.cps[i]?=some x.cps[i]:=b8Z lx
   have py':s.heap.IsTuple l2 its2.toArray:=py
   have ne2:∀c∈[z,TI,TO,i1,i2],l2≠c:=fun c hc=>W7 I (hf c hc) hy
   have D:ZAp z TI TO i1 i2 [i1] [i2,l2]:=⟨d2,d3,d4,d8,d9,d10,fun c hc=>by
       have:c=i1:=by simpa using hc
       subst this;exact⟨d3,d8.symm,d10⟩,fun c hc=>by
       rcases yX.mp hc with rfl | hc
       · exact⟨d4,d9.symm,d10.symm⟩
       · have:c=l2:=by simpa using hc
         subst this;exact⟨ne2 z (by simp),ne2 TO (by simp),ne2 i1 (by simp)⟩⟩
   have t1:∀k,IZ [i1] (fun h=>h.IsStrIter i1 "str_ascii_iterator" x t k):=fun k h h' ⟨o,e,r⟩ q=>⟨o,q i1 (by simp) o e,r⟩
   have t2:∀k,IZ [i2,l2] (fun h=>h.IsTupleIter i2 l2 k/\h.IsTuple l2 its2.toArray):=fun k h h' ⟨⟨o,e,r⟩,⟨o',e',r'⟩⟩ q=>⟨⟨o,q i2 (by simp) o e,r⟩,⟨o',q l2 (by simp) o' e',r'⟩⟩
   refine gW (R1:=fun u=>RelV (.str ⟨#[x.cps[i]]⟩) u) (R2:=fun u=>u=v) D (t1 i) (t1 (i+1)) (t2 i) (t2 (i+1)) (fun A=>lC hx) (fun A=>lD (ne2 i2 (by simp)) (by simpa using hv)) a1 a2 a3 a4 ⟨a5,py'⟩
     (fun h ⟨o,e,_⟩=>zM e) (fun h ⟨⟨o,e,_⟩,_⟩=>zM e) fun h' tk u u2 ru eu2 b1 b2 b3 b4 b5 b6 hk=>?_
   subst eu2
   refine⟨_,rfl,wpAny_letOwnedTupleGo_zip (s:={ s with heap:=h',toks:=tk }) b1 fun h2 c1 sb=>?_⟩
   have lt:∀{c o},s.heap.get? c=some o->s.heap.objs.size≠c:=fun e=>a8Q (zM e)
   have keep:∀b o,b∉[z,TO,i1,i2]->s.heap.get? b=some o->h2.get? b=some o:=fun b o hb e=>by
     simp only[yX,xX,or_false,not_or] at hb
     exact sb.extBut b o hb.1 (hk b o hb.1 hb.2.1 hb.2.2.1 hb.2.2.2 e)
   have sub:∀b∈[z,TO,i1,i2],b∈[z,TI,TO,i1,i2]:=fun b hb=>by
     simp only[yX,xX,or_false] at hb ⊢
     rcases hb with h | h | h | h <;> simp[h]
   have hTz:s.heap.objs.size≠z:=lt a1
   have I1:Inv X pins σ (upd H s.heap.objs.size (.tup [.str ⟨#[x.cps[i]]⟩,ys[i]])) { s with heap:=h2,toks:=tk }:=I.turnedT (t':=tk) (ch:=[z,TO,i1,i2]) keep (fun b hb=>(hf b (sub b hb)).1)
     (fun b hb=>let q:=hf b (sub b hb);⟨q.2.2.2.1,q.2.1,q.2.2.2.2.1,q.2.2.2.2.2⟩) (zR _)
     ⟨by show 2<=sizeLine;decide,[u,u2],.cons ru (.cons rv .nil),⟨_,sb.extBut _ _ hTz b5,rfl,_,rfl⟩⟩
   refine⟨.ref s.heap.objs.size,_,I1,rfl,⟨s.heap.objs.size,x.cps[i],ys[i],I.hok.fresh (zR _),rfl,rfl,hx,fun ys' hy'=>?_⟩,
     ⟨c1,keep _ _ ?_ a2,⟨_,_,sb.extBut _ _ d2 b2⟩,b3.extBut sb.extBut d3,b4.1.extBut sb.extBut d4⟩,fun b hb=>?_⟩
   · rw[I.tuple_inj hy' hy]
     exact zV ly
   · simp[d1,d5,d6,d7]
   · have hlt:s.heap.objs.size≠b:=by
       simp only[yX,xX,or_false] at hb
       rcases hb with rfl | rfl | rfl | rfl | rfl
       · exact lt a1
       · exact lt a2
       · exact lt a3
       · obtain⟨o,e,_⟩:=a4;exact lt e
       · obtain⟨o,e,_⟩:=a5;exact lt e
     rw[AM (b4Z hlt)]
     exact(hf b hb).1
 done:=by
   intro X hP hw hK hc i pins s σ H E I hf ⟨a1,a2,⟨x0,y0,a3⟩,a4,a5⟩ hg
   subst hP hw hK
   have hx:x.cps[i]?=none:=c0V hg
   have D:ZAp z TI TO i1 i2 [i1] []:=⟨d2,d3,d4,d8,d9,d10,fun c hc=>by
       have:c=i1:=by simpa using hc
       subst this;exact⟨d3,d8.symm,d10⟩,fun c hc=>nomatch hc⟩
   have t1:IZ [i1] (fun h=>h.IsStrIter i1 "str_ascii_iterator" x t i):=fun h h' ⟨o,e,r⟩ q=>⟨o,q i1 (by simp) o e,r⟩
   have sub:∀b∈[z,TO,i1,i2],b∈[z,TI,TO,i1,i2]:=fun b hb=>by
     simp only[yX,xX,or_false] at hb ⊢
     rcases hb with h | h | h | h <;> simp[h]
   refine gX (I.ok.hd hc) a1 (fun Q' E' hE' A' hA'=>gV D t1 (gY hA' hx) a1 a2 a3 a4 hE') fun h' tk hk=>⟨rfl,I.turnedL (t':=tk) (ch:=[z,TO,i1,i2]) (fun b o hb e=>?_) (fun b hb=>(hf b (sub b hb)).1) fun b hb=>let q:=hf b (sub b hb);⟨q.2.2.2.1,q.2.1,q.2.2.2.2.1,q.2.2.2.2.2⟩⟩
   simp only[yX,xX,or_false,not_or] at hb
   exact hk b o hb.1 hb.2.1 hb.2.2.1 hb.2.2.2 e
 self:=fun _ _ _ _ _ st h=>wpAny_pyIter_zip st.1 h
section
variable {X:Cx}{K:Frg}
def lE (K:Frg) (ta:TA):TI:=fun σ H R=>ta σ H fun vs H1=>False∨∃x b,vs=[.str x,.ref b]/\x.cps.all (· < 128)=true/\(∃ys,SqT K H1 b ys)/\R (A0X K x b) H1
theorem qP {a b:Expr}{ta:TA}{p pos:Pos}{elts:List Expr}{kk:Nat}{tpos:Pos}(hg:Gl X "zip") (hm:X.mg "zip"=none) (ha:PA X [a,b] ta) (hs:starEach [a,b] X.env=[(false,eval a X.env),(false,eval b X.env)]:=by rfl) (hs2:starEach [b] X.env=[(false,eval b X.env)]:=by rfl) :
   PI X (.Tuple elts kk tpos) (.Call (.Name "zip" p) [a,b] [] pos) (lE X.K ta):=by
 intro pins s σ H R I h
 refine Call_ (GZ I hg hm boot_zip (xH (thn (ha pos pins s σ H _ I h) fun us s1 ⟨vs,H1,I1,r1,q1⟩=>?_) (by rw[hs,hs2]) (by rw[hs2];rfl)))
 have ne:∀(m n:Nat),m≠n->s1.heap.objs.size+m≠s1.heap.objs.size+n:=fun m n h e=>h (Nat.add_left_cancel e)
 have fp:∀b∈[s1.heap.objs.size+4,s1.heap.objs.size+2,s1.heap.objs.size+3,s1.heap.objs.size,s1.heap.objs.size+1],LT X pins H1 b:=fun b hb=>by
   have hle:s1.heap.objs.size<=b:=by
     simp only[yX,xX,or_false] at hb
     rcases hb with rfl | rfl | rfl | rfl | rfl
     · exact a6X _ _
     · exact a6X _ _
     · exact a6X _ _
     · exact zR _
     · exact a6X _ _
   exact I1.fpOk hle (I1.hok.fresh hle)
 rcases q1 with q1 | ⟨x,l2,e,hx,⟨ys,hy⟩,q⟩
 · exact q1.elim
 · subst e
   cases r1 with
   | cons r rr=>
     cases rr with
     | cons r' rr=>
       cases rr;cases r'
       obtain⟨t,rfl⟩:=r
       obtain⟨its2,ry,py,_⟩:=I1.tuple hy
       refine h7 (gZ (t:=t) hx) (qO (t:=l2) (items:=its2.toArray)) (fun h o q=>q.push o) rfl rfl trivial (show s1.heap.IsTuple l2 its2.toArray from py) fun h' b1 b2 b3 b4 b5 hk=>?_
       refine wpAny_pyIter_zip (s:={ s1 with heap:=h' }) b1 ?_
       exact⟨s1.heap.objs.size+4,[s1.heap.objs.size+4,s1.heap.objs.size+2,s1.heap.objs.size+3,s1.heap.objs.size,s1.heap.objs.size+1],_,_,H1,rfl,I1.kept (t':=s1.toks) hk,
         bI (s1.heap.objs.size+4) (s1.heap.objs.size+2) (s1.heap.objs.size+3) s1.heap.objs.size (s1.heap.objs.size+1) x t l2 (ne 2 4 (by decide)) (ne 3 4 (by decide)) (ne 0 4 (by decide)) (ne 1 4 (by decide)) (ne 2 3 (by decide)) (ne 2 0 (by decide)) (ne 2 1 (by decide)) (ne 3 0 (by decide)) (ne 3 1 (by decide)) (ne 0 1 (by decide)),
         ⟨b1,b2,⟨_,_,b3⟩,⟨_,b4,rfl,rfl⟩,⟨_,b5,rfl,rfl⟩⟩,fp,q⟩
theorem A0Y {a b:Expr}{ta:TA}{p pos:Pos}{elts:List Expr}{kk:Nat}{tpos:Pos}(h:X.K=K) (hg:Gl X "zip") (hm:X.mg "zip"=none) (ha:PA X [a,b] ta) (hs:starEach [a,b] X.env=[(false,eval a X.env),(false,eval b X.env)]:=by rfl) (hs2:starEach [b] X.env=[(false,eval b X.env)]:=by rfl) :
   PI X (.Tuple elts kk tpos) (.Call (.Name "zip" p) [a,b] [] pos) (lE K ta):=h▸qP hg hm ha hs hs2
end
end L2
namespace L2
open PySem PySem.Spec PyProof.Rows
section
variable {X:Cx}
def A0Z:R2:=fun x y H Q=>(y = .non/\Q (.bl (decide (x = .non))) H)∨∃a b:Bool,x = .bl a/\y = .bl b/\Q (.bl (a==b)) H
theorem lG:OpR X (compareOp .Is) A0Z:=by
 intro pins s σ H x y v u Q I rx ry h
 rcases h with h | ⟨a,b,rfl,rfl,q⟩
 · exact uL pins s σ H x y v u Q I rx ry h
 · cases rx;cases ry
   refine wpAny_is_plain rfl ⟨.bl (a==b),H,I,?_,q⟩
   cases a <;> cases b <;> rfl
def tM:R2:=fun x y H Q=>(y = .non/\Q (.bl (!decide (x = .non))) H)∨∃a b:Bool,x = .bl a/\y = .bl b/\Q (.bl (!(a==b))) H
theorem dR:OpR X (compareOp .IsNot) tM:=by
 intro pins s σ H x y v u Q I rx ry h
 rcases h with h | ⟨a,b,rfl,rfl,q⟩
 · exact oN pins s σ H x y v u Q I rx ry h
 · cases rx;cases ry
   refine wpAny_isNot_plain rfl ⟨.bl (!(a==b)),H,I,?_,q⟩
   cases a <;> cases b <;> rfl
end
end L2
namespace DL
open PySem PySem.Spec L2
section
variable {K:Frg}{ρ:List (Option DS)}{M:Own}{Q:DS->Own->Prop}{QI:List PyData->Own->Prop}
theorem dS {d:PyData}(q:Q (.d (.bool (DJ d))) M):D2 K A0Z (.d d) (.d .none) M Q:=FW (wC q)
theorem RQ {d:PyData}(q:Q (.d (.bool (!DJ d))) M):D2 K tM (.d d) (.d .none) M Q:=FW (qA q)
theorem qQ {ta:TA}(h:DA K ta ρ M fun xs M1=>∃z bs,xs=[.d (.str z),.d (.tuple bs)]/\z.cps.all (· < 128)=true/\z.cps.size<=bs.length/\QI (Y1 (CB z) bs) M1):DI K (lE K ta) ρ M QI:=fun σ H R Rl k=>
 h σ H _ Rl fun vs H1 xs M1 o1 s1 t1 ⟨z,bs,e,hz,hl0,q⟩=>by
   subst e
   obtain⟨v,r,rfl,h1,v2,r2,rfl,h2,h3⟩:=s1
   cases h3
   rw[BA h1]
   unfold SI DV at h2
   obtain⟨b,vb,rfl,hl2,hd2⟩:=h2
   have hlen:(Y1 (CB z) bs).length=z.cps.size:=by unfold Y1;rw[zX,List.length_zip,gL];omega
   refine .inr ⟨z,b,rfl,hz,⟨vb,hl2.sq⟩,k _ (Y1 (CB z) bs) H1 M1 o1 t1 ⟨fun i H' M' hi oa st=>?_,fun H' M' oa st=>?_,fun i H' M' x H2 oa st hi y=>?_⟩ q⟩
   · rw[hlen] at hi
     exact⟨vb,(hl2.grow st.grow).sq,hi,by rw[hd2.length];omega⟩
   · show z.cps.size<=_
     rw[hlen];exact zR _
   · obtain⟨p,c,xb,hp,rfl,rfl,hc,hy⟩:=y
     have e2:=hy vb (hl2.grow st.grow).sq
     obtain⟨db,g1,g2⟩:=hd2.get e2
     have gg:Grow K M'.W M'.W H' (upd H' p (.tup [.str ⟨#[c]⟩,xb])):=AW _ hp
     refine⟨oa.new hp,⟨gg⟩,.tuple [.str ⟨#[c]⟩,db],?_,?_⟩
     · unfold Y1
       rw[zF]
       have hs:(CB z)[i]?=some (.str ⟨#[c]⟩):=by unfold CB;rw[zF];simp[hc]
       have:((CB z).zip bs)[i]?=some (.str ⟨#[c]⟩,db):=by rw[a8Z];exact⟨hs,g1⟩
       rw[this];rfl
     · unfold DV
       exact⟨p,_,rfl,.inl ⟨fun w=>w (oa.none hp),.inl AK⟩,DVs.cons (by unfold DV;rfl) (DVs.cons ((g2.grow st.grow).grow gg) DVs.nil)⟩
def DPs (K:Frg) (trs:List (TE×TE)) (ρ:List (Option DS)) (M:Own) (Q:List (Str×PyData)->Own->Prop):Prop:=
 ∀(σ:St) (H:Hp) (QQ:List (V×V)->Hp->Prop),Rel K M ρ σ H->(∀ps H' kds M',OA K H' M'->(∃vs,DVs K H' M'.W (kds.map (·.2)) vs/\ps=(kds.map fun k=>V.str k.1).zip vs)->Step K M M' H H'->Q kds M'->QQ ps H')->VP trs σ H QQ
theorem IK {Q:List (Str×PyData)->Own->Prop}(h:Q [] M):DPs K [] ρ M Q:=fun σ H QQ R k=>k [] H [] M R.own ⟨[],DVs.nil,rfl⟩ Step.refl h
theorem B9 {tk tv:TE}{trs:List (TE×TE)}{Q:List (Str×PyData)->Own->Prop}(h:DE K tk ρ M fun x M1=>∃k,x = .d (.str k)/\DE K tv ρ M1 fun y M2=>∃d,y = .d d/\DPs K trs ρ M2 fun kds M3=>Q ((k,d)::kds) M3):DPs K ((tk,tv)::trs) ρ M Q:=fun σ H QQ R kk=>
 h σ H _ R fun v H1 x M1 o1 s1 t1 h1=>by
   obtain⟨k,rfl,h1⟩:=h1
   refine h1 σ H1 _ (R.step o1 t1) fun u H2 y M2 o2 s2 t2 h2=>?_
   obtain⟨d,rfl,h2⟩:=h2
   refine h2 σ H2 _ (R.step o2 (t1.trans t2)) fun ps H3 kds M3 o3 ⟨vs,s3,e3⟩ t3 q=>?_
   refine kk _ H3 ((k,d)::kds) M3 o3 ⟨u::vs,DVs.cons (DV.grow t3.grow s2) s3,?_⟩ ((t1.trans t2).trans t3) q
   rw[BA s1,e3];rfl
theorem P6:∀(kvs acc:List (Key×V)),((acc++kvs).map (·.1)).Nodup->JQ acc kvs=acc++kvs
 | [],acc,_=>by simp[JQ]
 | kv::r,acc,h=>by
   have h1:(acc.any fun x=>decide (x.1=kv.1))=false:=by
     rw[c0X]
     intro x hx
     rw[xI,b9J] at h
     have:=h.2.2 x.1 (zL.mpr ⟨x,hx,rfl⟩) kv.1 (by simp)
     simpa using this
   show JQ (EX acc kv.1 kv.2) r=_
   have e:EX acc kv.1 kv.2=acc++[kv]:=by
     unfold EX
     rw[h1];rfl
   rw[e,P6 r (acc++[kv]) (by rw[c0Q];exact h)]
   simp
theorem lH {H:Hp}{W:Addr->Prop}:∀{kds:List (Str×PyData)}{vs:List V},DVs K H W (kds.map (·.2)) vs->DKV K H W (kds.map fun k=>(.str k.1,k.2)) ((kds.map fun k=>(a1Z k.1:Key)).zip vs)
 | [],vs,h=>by unfold DKV;rfl
 | (k,d)::r,vs,h=>by
   rw[zI] at h
   unfold DVs at h
   obtain⟨v,r',rfl,h1,h2⟩:=h
   rw[zI]
   unfold DKV
   exact⟨a1Z k,v,_,rfl,rfl,h1,lH h2⟩
theorem YE:∀(kds:List (Str×PyData)) (vs:List V),vs.length=kds.length->(kds.map fun k=>V.str k.1).zip vs=((kds.map fun k=>(a1Z k.1:Key)).zip vs).map fun kv=>(kV kv.1,kv.2)
 | [],vs,_=>by simp
 | a::r,[],h=>by cases h
 | a::r,v::vs,h=>by
   rw[zI,zI,a7K,a7K,zI,YE r vs (by simpa using h)];rfl
theorem FZ {trs:List (TE×TE)}(h:∀p,M p=none->DPs K trs ρ (M.put p (.d [])) fun kds M1=>M1 p=some (.d [])/\kds.length<=15/\(kds.map (·.1)).Nodup/\Q (.d (.dict (kds.map fun k=>(.str k.1,k.2)))) (M1.del p)):DE K (t9 trs) ρ M Q:=fun σ H QQ R k p hp=>by
 have hMp:=R.own.none hp
 obtain⟨oa0,st0⟩:=RF (kvs:=[]) (ks:=[]) R.own hp (by unfold DKV;rfl)
 refine h p hMp σ _ _ (R.step oa0 st0) fun ps H2 kds M2 o2 ⟨vs,hd,e⟩ t2 h2=>?_
 obtain⟨hm,hl,nd,q⟩:=h2
 obtain⟨ks,q1,q2⟩:=o2 p _ hm
 unfold DKV at q2
 subst q2
 have hlen:vs.length=kds.length:=by rw[hd.length,zX]
 refine⟨q1,(kds.map fun k=>(a1Z k.1:Key)).zip vs,?_,by rw[List.length_zip,zX];omega,?_⟩
 · rw[e];exact YE kds vs hlen
 · have hk:(((kds.map fun k=>(a1Z k.1:Key)).zip vs).map (·.1)).Nodup:=by
     rw[List.map_fst_zip (by rw[zX,hlen];exact zR _)]
     have:kds.map (fun k=>(a1Z k.1:Key))=(kds.map (·.1)).map a1Z:=by rw[zD];rfl
     rw[this]
     unfold List.Nodup
     rw[a3V]
     exact nd.imp fun {a b} q e=>q (by injection e)
   rw[P6 _ [] (by simpa using hk),List.nil_append]
   obtain⟨o3,t3⟩:=D7 (kvs:=kds.map fun k=>(.str k.1,k.2)) (ks:=(kds.map fun k=>(a1Z k.1:Key)).zip vs) o2 hm (lH hd)
   have hs:(M2.del p).Sub (M2.put p (.d (kds.map fun k=>(.str k.1,k.2)))):=fun b o e=>by
     unfold Own.del at e
     by_cases hb:b=p
     · rw[if_pos hb] at e;cases e
     · rw[if_neg hb] at e;rw[yH hb];exact e
   refine k _ _ (.d (.dict (kds.map fun k=>(.str k.1,k.2)))) (M2.del p) (o3.sub hs) ?_ (((st0.trans t2).trans t3).trans ⟨BP hs⟩) q
   obtain⟨ks',q1',q2'⟩:=o3 p _ zU
   unfold SI DV
   exact⟨p,ks',rfl,fun w=>w (by unfold Own.del;rw[if_pos rfl]),.inl q1',q2'.grow (BP hs)⟩
def J0 (k:Str):List (PyData×PyData)->Option PyData
 | (.str a,d)::r=>if a=k then some d else J0 k r
 | _::r=>J0 k r
 | []=>none
theorem dU {H:Hp}{W:Addr->Prop}{k:Str}:∀{kvs:List (PyData×PyData)}{ks:List (Key×V)},DKV K H W kvs ks->(∃d v,J0 k kvs=some d/\E9 ks (a1Z k)=some v/\DV K H W d v)∨(J0 k kvs=none/\E9 ks (a1Z k)=none)
 | [],ks,h=>by unfold DKV at h;subst h;exact .inr ⟨rfl,rfl⟩
 | (kd,d)::r,ks,h=>by
   unfold DKV at h
   obtain⟨k',v,r',rfl,rfl,h1,h2⟩:=h
   have ih:=dU (k:=k) h2
   unfold E9 at ih ⊢
   rw[a9Q]
   cases k' with
   | inl i=>
     have e1:decide ((a4X i:Key)=a1Z k)=false:=rfl
     rw[e1]
     exact ih
   | inr a=>
     by_cases e:a=k
     · subst e
       left
       exact⟨d,v,by simp[gC,J0],by simp,h1⟩
     · have e1:decide ((a1Z a:Key)=a1Z k)=false:=decide_eq_false fun q=>e (by injection q)
       rw[e1]
       rcases ih with ⟨d',v',a1,a2,a3⟩ | ⟨a1,a2⟩
       · exact .inl ⟨d',v',by simp only[gC,J0,if_neg e];exact a1,a2,a3⟩
       · exact .inr ⟨by simp only[gC,J0,if_neg e];exact a1,a2⟩
theorem G0 {td ty tx:TE}(h:DE K td ρ M fun x M1=>∃kvs,x = .d (.dict kvs)/\DE K ty ρ M1 fun y M2=>∃k,y = .d (.str k)/\DE K tx ρ M2 fun z M3=>∃dz,z = .d dz/\Q (.d ((J0 k kvs).getD dz)) M3):DE K (jU td ty tx) ρ M Q:=fun σ H QQ R kk=>
 h σ H _ R fun v H1 x M1 o1 s1 t1 h1=>by
   obtain⟨kvs,rfl,h1⟩:=h1
   have s1':=s1
   unfold SI DV at s1'
   obtain⟨a,ks,rfl,nw,ha,hk⟩:=s1'
   refine⟨a,rfl,.inl ⟨ks,ha⟩,h1 σ H1 _ (R.step o1 t1) fun u H2 y M2 o2 s2 t2 h2=>?_⟩
   obtain⟨k,rfl,h2⟩:=h2
   refine h2 σ H2 _ (R.step o2 (t1.trans t2)) fun z H3 zz M3 o3 s3 t3 h3=>?_
   obtain⟨dz,rfl,q⟩:=h3
   have s1'':=s1.step (t2.trans t3)
   unfold SI DV at s1''
   obtain⟨a',ks',e,nw',ha',hk'⟩:=s1''
   cases e
   rw[BA s2]
   rcases dU (k:=k) hk' with ⟨d,v,e1,e2,e3⟩ | ⟨e1,e2⟩
   · rw[e1] at q
     exact⟨some v,.inl ⟨ks',a1Z k,ha',rfl,e2.symm⟩,kk _ H3 (.d d) M3 o3 e3 ((t1.trans t2).trans t3) q⟩
   · rw[e1] at q
     exact⟨none,.inl ⟨ks',a1Z k,ha',rfl,e2.symm⟩,kk _ H3 (.d dz) M3 o3 s3 ((t1.trans t2).trans t3) q⟩
end
end DL
namespace L2
open PySem PySem.Spec PyProof.Rows
section
variable {prog:Program}{w:World}{A:Around}{E:Value->Shared->Prop}{s:Shared}
theorem YF {it l:Addr}{its:Array Value}(hne:l≠it):∀(n i:Nat) (s:Shared) (Q:List Value->Shared->Prop),s.heap.IsListIter it l i->s.heap.IsList l its->i+n<=its.size ->
   (∀h',h'.IsListIter it l (i+n)->Heap.SameBut it s.heap h'->Q ((its.toList.drop i).take n) { s with heap:=h' })->wpAny (model prog w) A (draw (.ref it) n) Q E s
 | 0,i,s,Q,hit,_,_,hQ=>by
   show wpAny _ _ (pure []) Q E s;exact zY (by simpa using hQ s.heap hit (Heap.SameBut.refl ..))
 | n+1,i,s,Q,hit,hl,hle,hQ=>by
   have hlt:i < its.size:=by omega
   show wpAny _ _ (pyNext (.ref it) >>= _) Q E s;refine zZ (wpAny_pyNext_list_item hit hl (x:=its[i]) (by simp[hlt]) fun g1 t1 q1=>?_)
   refine zZ (wpAny_holding (YF hne n (i+1) _ _ t1 (hl.extBut q1.extBut hne) (by omega) fun g2 t2 q2=>zY ?_))
   have hd:its.toList.drop i=its[i]::its.toList.drop (i+1):=by simp[List.drop_eq_getElem_cons,hlt]
   have h3:=hQ g2 (by rw[show i+(n+1)=i+1+n by omega];exact t2) (q1.trans q2)
   rw[hd,List.take_succ_cons] at h3
   exact h3
theorem bJ {l:Addr}{its:Array Value}{Q:List Value->Shared->Prop}(hh:A.handled=none) (hl:s.heap.IsList l its)
   (hQ:∀h',Heap.ExtBut s.heap.objs.size s.heap h'->Q its.toList { s with heap:=h' }):wpAny (model prog w) A (unpackItems (.ref l) its.size none) Q E s:=by
 have hne:l≠s.heap.objs.size:=by obtain⟨o,ho,_⟩:=hl;exact zC (zM ho)
 unfold unpackItems;refine zZ ?_;unfold notIterableAtAll
 refine zZ (wpAny_specialOf hl.typeIs F.slot_list_iter.lookup ?_);refine zY ?_;simp only[b8X,if_false]
 refine zZ (wpAny_holding (wpAny_pyIter_list hl ?_))
 refine zZ (wpAny_holding (YF hne its.size 0 _ _ ⟨_,yZ _ rfl,rfl,rfl⟩ (hl.push _) (by omega) fun g1 t1 q1=>?_))
 rw[show List.take its.size (List.drop 0 its.toList)=its.toList by rw[List.drop_zero];exact a9W (by simp),if_neg (by simp)]
 refine zZ (wpAny_holding (wpAny_pyNext_list_end hh t1 ((hl.push _).extBut q1.extBut hne) (by simp) fun g2 e2=>?_));simp only[Option.isSome_none,b8X,if_false]
 exact zY (hQ g2 fun b o hb e=>e2 b o hb (q1.extBut b o hb (zW _ e)))
end
section
variable {X:Cx}{pos:Pos}
def dW (K:Frg) (n:Nat) (t:TGs):TG:=fun v σ H Q=>∃a xs,v = .ref a/\(SqT K H a xs∨SqL K H a xs)/\xs.length=n/\t xs σ H Q
theorem qR {es:List Expr}{k:Nat}{t:TGs}{n:Nat}(hc:X.calm=true) (h:PGs X es t)
   (hn:(assignEach es X.env).length=n:=by rfl) (hst:(assignEach es X.env).findIdx? (·.1)=none:=by rfl):PG X (.Tuple es k pos) (dW X.K n t):=by
 intro pins s σ H v u Q I r hw
 obtain⟨a,xs,e1,hq,hl,hw⟩:=hw
 rcases hq with hq | hq
 · exact jF hc h hn hst pins s σ H v u Q I r ⟨a,xs,e1,hq,hl,hw⟩
 · subst e1
   cases r
   obtain⟨its,rv,pl,hz⟩:=I.list hq
   rw[arm_assign_Tuple]
   refine zZ (wpAny_standAt ?_)
   unfold unpack
   rw[show(assignEach es X.env).length=its.toArray.size by simp[hn,← hl,rv.length],hst]
   refine zZ (wpAny_holding (bJ (I.ok.hd hc) pl.isList fun h' hx=>?_))
   have I1:Inv X pins σ H { s with heap:=h' }:=I.kept (t':=s.toks) fun b o e=>hx b o (zC (zM e)) e
   exact h pins _ σ H xs _ Q I1 (by simpa using rv) hw
end
end L2
namespace DL
open PySem PySem.Spec L2
theorem RR {X:Cx}{K:Frg}{pos:Pos}{es:List Expr}{k:Nat}{t:TGs}{n:Nat}(hK:X.K=K) (hc:X.calm=true) (h:PGs X es t)
   (hn:(assignEach es X.env).length=n:=by rfl) (hst:(assignEach es X.env).findIdx? (·.1)=none:=by rfl):PG X (.Tuple es k pos) (dW K n t):=hK▸qR hc h hn hst
section
variable {K:Frg}{M:Own}{ρ:List (Option DS)}{P:List (Option DS)->Own->Prop}
theorem qS {n:Nat}{g:TGs}{ds:List PyData}(hn:ds.length=n) (h:DGs K g ds ρ M P):DG K (dW K n g) (.tuple ds) ρ M P:=fun σ H v QQ R dv k=>by
 unfold DV at dv
 obtain⟨a,vs,rfl,hl,hd⟩:=dv
 exact⟨a,vs,rfl,.inl hl.sq,by rw[hd.length];exact hn,h σ H vs QQ R hd k⟩
end
end DL
namespace L2
open PySem PySem.Spec PyProof.Rows PySem.W
section
variable {n:Nat}{lt:Nat->Nat->Bool}
def Good (n:Nat) (lt:Nat->Nat->Bool) {α:Type}(P:α->Prop):KasT α->Prop
 | .ret a=>P a
 | .ask i j k=>i < n/\j < n/\i≠j/\Good n lt P (k (lt i j))
theorem Good.mono {α:Type}{P Q:α->Prop}(h:∀a,P a->Q a):∀{t:KasT α},Good n lt P t->Good n lt Q t
 | .ret _,g=>h _ g
 | .ask _ _ _,⟨a,b,c,g⟩=>⟨a,b,c,Good.mono h g⟩
theorem Good.bind {α β:Type}{P:β->Prop}{f:α->KasT β}:∀{t:KasT α},Good n lt (fun a=>Good n lt P (f a)) t->Good n lt P (t.bind f)
 | .ret _,g=>g
 | .ask _ _ _,⟨a,b,c,g⟩=>⟨a,b,c,Good.bind g⟩
theorem Good.wp {α:Type}{cmp:Nat->Nat->(Bool->Shared->Prop)->Shared->Prop}{s:Shared}{P:α->Prop}{Q:α->Shared->Prop}
   (hc:∀i j (C:Bool->Shared->Prop),i < n->j < n->i≠j->C (lt i j) s->cmp i j C s) (hq:∀a,P a->Q a s):∀{t:KasT α},Good n lt P t->t.kasWp cmp Q s
 | .ret a,g=>hq a g
 | .ask i j k,⟨a,b,c,g⟩=>hc i j _ a b c (Good.wp hc hq g)
structure Strict (n:Nat) (lt:Nat->Nat->Bool):Prop where
 irr:∀i,lt i i=false
 tr:∀i j k,lt i j=true->lt j k=true->lt i k=true
 tot:∀i j,i < n->j < n->i≠j->lt i j=true∨lt j i=true
def Pm (n:Nat) (p:Array Nat):Prop:=p.toList.Perm (a1Q n)
theorem Pm.size {p:Array Nat}(h:Pm n p):p.size=n:=by have:=h.length_eq;simpa using this
theorem Pm.bel {p:Array Nat}(h:Pm n p) {i:Nat}(hi:i < n):p.getD i 0 < n:=by
 have hs:i < p.size:=by rw[h.size];exact hi
 have:p[i]∈a1Q n:=h.mem_iff.mp (by simp)
 simp only[Array.getD,hs,dite_true]
 exact List.mem_range.mp this
theorem wJ {l:List Nat}(nd:l.Nodup) {i j:Nat}{hi:i < l.length}{hj:j < l.length}(e:l[i]=l[j]):i=j:=by
 rcases b4Q i j with h | h | h
 · exact absurd e (List.pairwise_iff_getElem.mp nd i j hi hj h)
 · exact h
 · exact absurd e.symm (List.pairwise_iff_getElem.mp nd j i hj hi h)
theorem Pm.inj {p:Array Nat}(h:Pm n p) {i j:Nat}(hi:i < n) (hj:j < n) (hij:i≠j):p.getD i 0≠p.getD j 0:=by
 have hsi:i < p.size:=by rw[h.size];exact hi
 have hsj:j < p.size:=by rw[h.size];exact hj
 simp only[Array.getD,hsi,hsj,dite_true]
 have nd:p.toList.Nodup:=h.nodup_iff.mpr List.nodup_range
 intro e
 have e':p.toList[i]'(by simpa using hsi)=p.toList[j]'(by simpa using hsj):=by simpa using e
 exact hij (wJ nd e')
def Up (lt:Nat->Nat->Bool) (p:Array Nat) (k:Nat):Prop:=∀i j,i < j->j < k->lt (p.getD i 0) (p.getD j 0)=true
def Dn (lt:Nat->Nat->Bool) (p:Array Nat) (k:Nat):Prop:=∀i j,i < j->j < k->lt (p.getD j 0) (p.getD i 0)=true
theorem RS (S:Strict n lt) {p:Array Nat}(hp:Pm n p):∀(f m:Nat),1<=m->m+f<=n->Up lt p m ->
   Good n lt (fun r=>m<=r/\r<=m+f/\Up lt p r/\(r=m+f∨lt (p.getD r 0) (p.getD (r - 1) 0)=true)) (kas_asc p f m)
 | 0,m,h1,h2,h3=>⟨zR _,zR _,h3,.inl rfl⟩
 | f+1,m,h1,h2,h3=>by
   unfold kas_asc
   refine⟨hp.bel (by omega),hp.bel (by omega),hp.inj (by omega) (by omega) (by omega),?_⟩
   cases hc:lt (p.getD m 0) (p.getD (m - 1) 0) with
   | true=>exact⟨zR _,by omega,h3,.inr hc⟩
   | false=>
     have hup:lt (p.getD (m - 1) 0) (p.getD m 0)=true:=(S.tot _ _ (hp.bel (by omega)) (hp.bel (by omega)) (hp.inj (i:=m - 1) (j:=m) (by omega) (by omega) (by omega))).elim id fun z=>by rw[hc] at z;cases z
     dsimp only
     rw[if_neg nft]
     refine(RS S hp f (m+1) (by omega) (by omega) fun i j hij hj=>?_).mono fun r ⟨a,b,c,d⟩=>⟨by omega,by omega,c,d.elim (fun z=>.inl (by omega)) .inr⟩
     by_cases hjm:j < m
     · exact h3 i j hij hjm
     · have e:j=m:=by omega
       subst e
       by_cases hi:i=j - 1
       · subst hi;exact hup
       · exact S.tr _ _ _ (h3 i (j - 1) (by omega) (by omega)) hup
theorem UR (S:Strict n lt) {p:Array Nat}(hp:Pm n p):∀(f m:Nat),1<=m->m+f<=n->Dn lt p m ->
   Good n lt (fun r=>r.1=p/\r.2.2=0/\m<=r.2.1/\r.2.1<=m+f/\Dn lt p r.2.1) (kas_desc f p m 0)
 | 0,m,h1,h2,h3=>⟨rfl,rfl,zR _,zR _,h3⟩
 | f+1,m,h1,h2,h3=>by
   unfold kas_desc
   refine⟨hp.bel (by omega),hp.bel (by omega),hp.inj (by omega) (by omega) (by omega),?_⟩
   cases hc:lt (p.getD m 0) (p.getD (m - 1) 0) with
   | true=>
     dsimp only
     rw[if_pos rfl,if_neg (yF 0)]
     refine(UR S hp f (m+1) (by omega) (by omega) fun i j hij hj=>?_).mono fun r ⟨a,b,c,d,e⟩=>⟨a,b,by omega,by omega,e⟩
     by_cases hjm:j < m
     · exact h3 i j hij hjm
     · have e:j=m:=by omega
       subst e
       by_cases hi:i=j - 1
       · subst hi;exact hc
       · exact S.tr _ _ _ hc (h3 i (j - 1) (by omega) (by omega))
   | false=>
     have hup:lt (p.getD (m - 1) 0) (p.getD m 0)=true:=(S.tot _ _ (hp.bel (by omega)) (hp.bel (by omega)) (hp.inj (i:=m - 1) (j:=m) (by omega) (by omega) (by omega))).elim id fun z=>by rw[hc] at z;cases z
     dsimp only
     rw[if_neg nft]
     refine⟨hp.bel (by omega),hp.bel (by omega),hp.inj (by omega) (by omega) (by omega),?_⟩
     dsimp only
     rw[hup,if_pos rfl]
     exact⟨rfl,rfl,zR _,(show m<=_ by omega),h3⟩
theorem QR {α:Type}{xs ys:Array α}{i j:Nat}{d:α}(h:xs[i]?=ys[j]?):xs.getD i d=ys.getD j d:=by
 rw[b6Q,b6Q,h]
theorem lI {p:Array Nat}(hp:Pm n p) (i j:Nat):Pm n (kas_rev p i j):=(Array.perm_iff_toList_perm.mp (mirror_perm _ _ _ _)).trans hp
theorem bK (S:Strict n lt) {p:Array Nat}(hp:Pm n p) {m:Nat}(h1:1<=m) (h2:m<=n) (h3:Dn lt p m) :
   Good n lt (fun r=>1<=r.1/\r.1<=n/\Pm n r.2/\Up lt r.2 r.1) (kas_tail3 m n p):=by
 unfold kas_tail3
 refine Good.bind ((RS S (lI hp 0 m) (n - m) m h1 (by omega) fun i j hij hj=>?_).mono fun r ⟨a,b,c,_⟩=>⟨by omega,by omega,lI hp 0 m,c⟩)
 have hz:m<=p.size:=by rw[hp.size];exact h2
 have e:∀k,k < m->(kas_rev p 0 m).getD k 0=p.getD (m - 1 - k) 0:=fun k hk=>by
   refine QR ?_
   unfold kas_rev
   rw[getElem?_mirror_all (i:=0) hz k,if_pos ⟨xT _,hk⟩,Nat.zero_add]
 rw[e i (by omega),e j (by omega)]
 exact h3 _ _ (by omega) (by omega)
theorem TM (S:Strict n lt) {p:Array Nat}(hp:Pm n p) {m:Nat}(h2:m+1<=n) (h3:Dn lt p (m+1)) :
   Good n lt (fun r=>1<=r.1/\r.1<=n/\Pm n r.2/\Up lt r.2 r.1) (kas_descPart m n p):=by
 unfold kas_descPart
 refine Good.bind ((UR S hp (n - (m+1)) (m+1) (by omega) (by omega) h3).mono fun r ⟨a,b,c,d,e⟩=>?_)
 rw[b,if_neg (yF 0),a]
 exact bK S hp (by omega) (by omega) e
theorem bL (S:Strict n lt) {p:Array Nat}(hp:Pm n p) (h2:1<=n) :
   Good n lt (fun r=>1<=r.1/\r.1<=n/\Pm n r.2/\Up lt r.2 r.1) (kas_count n p):=by
 unfold kas_count
 refine Good.bind ((RS S hp (n - 1) 1 (zR _) (by omega) fun i j hij hj=>by omega).mono fun r ⟨a,b,c,d⟩=>?_)
 by_cases hr:r=n
 · subst hr
   rw[if_pos (by simp)]
   exact⟨a,zR _,hp,c⟩
 · rw[if_neg (by simpa using hr)]
   have hlt:lt (p.getD r 0) (p.getD (r - 1) 0)=true:=d.resolve_left (by omega)
   by_cases h1:r > 1
   · rw[if_pos h1]
     refine⟨hp.bel (by omega),hp.bel (by omega),hp.inj (by omega) (by omega) (by omega),?_⟩
     dsimp only
     rw[c 0 (r - 1) (by omega) (by omega),if_pos rfl]
     exact⟨a,by omega,hp,c⟩
   · rw[if_neg h1]
     have e:r=1:=by omega
     subst e
     refine TM S hp (by omega) fun i j hij hj=>?_
     have e1:i=0:=by omega
     have e2:j=1:=by omega
     subst e1 e2
     exact hlt
theorem M9 (S:Strict n lt) {p:Array Nat}(hp:Pm n p) {k:Nat}(hk:k < n) (hu:Up lt p k):∀(f l r:Nat),l<=r->r<=k->r - l<=f ->
   (∀i,i < l->lt (p.getD i 0) (p.getD k 0)=true)->(∀i,r<=i->i < k->lt (p.getD k 0) (p.getD i 0)=true) ->
   Good n lt (fun x=>x<=k/\(∀i,i < x->lt (p.getD i 0) (p.getD k 0)=true)/\∀i,x<=i->i < k->lt (p.getD k 0) (p.getD i 0)=true) (kas_place p k f l r)
 | 0,l,r,h1,h2,h3,h4,h5=>by
   unfold kas_place
   exact⟨by omega,h4,fun i hi hik=>h5 i (by omega) hik⟩
 | f+1,l,r,h1,h2,h3,h4,h5=>by
   unfold kas_place
   by_cases hge:l≥r
   · rw[if_pos hge]
     exact⟨by omega,h4,fun i hi hik=>h5 i (by omega) hik⟩
   · rw[if_neg hge]
     have hm:l<=(l+r)/2/\(l+r)/2 < r:=by omega
     generalize (l+r)/2=m at hm ⊢
     obtain⟨hm1,hm2⟩:=hm
     have hmk:m < k:=zP hm2 h2
     have hmn:m < n:=xQ hmk hk
     refine⟨hp.bel hk,hp.bel hmn,hp.inj hk hmn (a8Q hmk),?_⟩
     cases hc:lt (p.getD k 0) (p.getD m 0) with
     | true=>
       dsimp only
       rw[if_pos rfl]
       refine M9 S hp hk hu f l m hm1 (xR hmk) (by omega) h4 fun i hi hik=>?_
       by_cases e:i=m
       · subst e;exact hc
       · exact S.tr _ _ _ hc (hu _ _ (Nat.lt_of_le_of_ne hi (b4Z e)) hik)
     | false=>
       dsimp only
       rw[if_neg nft]
       have hup:lt (p.getD m 0) (p.getD k 0)=true:=(S.tot _ _ (hp.bel hmn) (hp.bel hk) (hp.inj (i:=m) (j:=k) hmn hk (zC hmk))).elim id fun z=>by rw[hc] at z;cases z
       refine M9 S hp hk hu f (m+1) r hm2 h2 (by omega) (fun i hi=>?_) h5
       by_cases e:i=m
       · subst e;exact hup
       · exact S.tr _ _ _ (hu _ _ (by omega) (by omega)) hup
theorem YG (S:Strict n lt):∀(f:Nat) {p:Array Nat}{k:Nat},Pm n p->k+f=n->Up lt p k->Good n lt (fun q=>Pm n q/\Up lt q n) (kas_bin f p k)
 | 0,p,k,hp,h1,h2=>by
   have e:k=n:=by omega
   subst e
   exact⟨hp,h2⟩
 | f+1,p,k,hp,h1,h2=>by
   unfold kas_bin
   refine Good.bind ((M9 S hp (by omega) h2 k 0 k (xT _) (zR _) (by omega) (fun i hi=>by omega) fun i hi hk=>by omega).mono fun x ⟨hx,a,b⟩=>?_)
   have hks:k < p.size:=by rw[hp.size];omega
   refine YG S f ((Array.perm_iff_toList_perm.mp (bubble_perm _ _ _)).trans hp) (by omega) fun i j hij hj=>?_
   have e:∀q,(bubble p k (k - x)).getD q 0=if q=x then p.getD k 0 else if x < q/\q<=k then p.getD (q - 1) 0 else p.getD q 0:=fun q=>by
     have:=getElem?_bubble hks (k - x) (by omega) q
     rw[show k - (k - x)=x by omega] at this
     by_cases c1:q=x
     · rw[if_pos c1] at this ⊢;exact QR this
     · rw[if_neg c1] at this ⊢
       by_cases c2:x < q/\q<=k
       · rw[if_pos c2] at this ⊢;exact QR this
       · rw[if_neg c2] at this ⊢;exact QR this
   obtain⟨g,hg⟩:∃g:Nat->Nat,∀i,p.getD i 0=g i:=⟨_,fun _=>rfl⟩
   have h2':∀i j,i < j->j < k->lt (g i) (g j)=true:=fun i j x y=>by rw[← hg,← hg];exact h2 i j x y
   rw[e,e]
   simp only[hg] at a b ⊢
   clear e
   rcases b4Q j x with hj' | hj' | hj'
   · have hi':i < x:=xQ hij hj'
     rw[if_neg (zC hi'),if_neg (fun z=>Nat.lt_asymm z.1 hi'),if_neg (zC hj'),if_neg (fun z=>Nat.lt_asymm z.1 hj')]
     exact h2' _ _ hij (zP hj' hx)
   · subst hj'
     rw[if_neg (zC hij),if_neg (fun z=>Nat.lt_asymm z.1 hij),if_pos rfl]
     exact a _ hij
   · obtain⟨j',rfl⟩:∃j',j=j'+1:=⟨j - 1,by omega⟩
     have hjk:j' < k:=Nat.lt_of_succ_le (Nat.le_of_lt_succ hj)
     have hxj:x<=j':=Nat.le_of_lt_succ hj'
     rw[if_neg (a8Q hj') (c:=j'+1=x),if_pos (c:=x < j'+1/\j'+1<=k) ⟨hj',hjk⟩,Nat.add_sub_cancel]
     rcases b4Q i x with hi' | hi' | hi'
     · rw[if_neg (zC hi'),if_neg (fun z=>Nat.lt_asymm z.1 hi')]
       exact h2' _ _ (zP hi' hxj) hjk
     · rw[if_pos hi']
       exact b _ hxj hjk
     · obtain⟨i',rfl⟩:∃i',i=i'+1:=⟨i - 1,by omega⟩
       have hij':i' < j':=Nat.lt_of_succ_lt_succ hij
       rw[if_neg (a8Q hi'),if_pos (c:=x < i'+1/\i'+1<=k) ⟨hi',xQ hij' hjk⟩,Nat.add_sub_cancel]
       exact h2' _ _ hij' hjk
theorem h9 (S:Strict n lt) (h1:1<=n):Good n lt (fun q=>Pm n q/\Up lt q n) (kas_sort n):=by
 unfold kas_sort
 refine Good.bind ((bL S (show Pm n _ from .refl _) h1).mono fun r ⟨a,b,c,d⟩=>?_)
 have e:max r.1 1=r.1:=by omega
 rw[e]
 by_cases hr:r.1 < n
 · rw[if_pos hr]
   exact YG S _ c (by omega) d
 · rw[if_neg hr]
   have e:r.1=n:=by omega
   rw[e] at d
   exact⟨c,d⟩
end
end L2
namespace L2
open PySem PySem.Spec PyProof.Rows PySem.W
def TupsN (h:Heap) (vs:List Value) (ns:List Str):Prop:=
 vs.length=ns.length/\∀(i:Nat) (v:Value) (nm:Str),vs[i]?=some v->ns[i]?=some nm->∃(a:Addr) (o:Obj) (xs:Array Value) (k:Nat) (t:Tok),v=a0Z a/\h.get? a=some o/\o.cls = .type "tuple" /\ o.data = .seq xs k/\xs[0]?=some (.str nm t)
theorem TupsN.keep {h h':Heap}{vs:List Value}{ns:List Str}(t:TupsN h vs ns) (hk:∀b o,o.cls = .type "tuple" -> h.get? b=some o->h'.get? b=some o):TupsN h' vs ns:=
 ⟨t.1,fun i v nm e1 e2=>let ⟨a,o,xs,k,t',h1,h2,h3,h4,h5⟩:=t.2 i v nm e1 e2;⟨a,o,xs,k,t',h1,hk a o h3 h2,h3,h4,h5⟩⟩
theorem TupsN.kat {h:Heap}:∀{vs:List Value}{ns:List Str},TupsN h vs ns->∃fs,KatTups h vs fs/\fs.length=ns.length/\∀v∈fs,∃x t,v=c1Q x t
 | [],[],_=>⟨[],trivial,rfl,fun v hv=>nomatch hv⟩
 | [],_::_,t=>by have:=t.1;simp at this
 | _::_,[],t=>by have:=t.1;simp at this
 | v::vs,nm::ns,t=>by
   obtain⟨a,o,xs,k,t',rfl,h2,h3,h4,h5⟩:=t.2 0 v nm rfl rfl
   obtain⟨fs,q1,q2,q3⟩:=TupsN.kat (vs:=vs) (ns:=ns) ⟨by have:=t.1;simpa using this,fun i v nm e1 e2=>t.2 (i+1) v nm (by simpa using e1) (by simpa using e2)⟩
   exact⟨_,KatTups.cons h2 h3 h4 h5 q1,by simp[q2],fun v hv=>(yX.mp hv).elim (fun e=>⟨_,_,e⟩) (q3 v)⟩
section
variable {prog:Program}{w:World}{A:Around}{E:Value->Shared->Prop}{s:Shared}
theorem lJ {vs:List Value}{ns:List Str}(t:TupsN s.heap vs ns) (nd:ns.Nodup) {i j:Nat}(hi:i < ns.length) (hj:j < ns.length) (hij:i≠j) {C:Bool->Shared->Prop}(h:C (decide ((ns.getD i "").cps.toList < (ns.getD j "").cps.toList)) s) :
   kas_ask prog w A (tuples' true) vs i j C s:=by
 unfold kas_ask
 have hl:=t.1
 have e1:vs[i]?=some (vs.getD i a2V):=by rw[yU,zV (by omega)];rfl
 have e2:vs[j]?=some (vs.getD j a2V):=by rw[yU,zV (by omega)];rfl
 have f1:ns[i]?=some (ns.getD i ""):=by rw[yU,zV hi];rfl
 have f2:ns[j]?=some (ns.getD j ""):=by rw[yU,zV hj];rfl
 have hne:ns.getD i "" ≠ ns.getD j "" := fun e=>by
   rw[yU,yU,zV hi,zV hj] at e
   rcases Nat.lt_or_gt_of_ne hij with q | q
   · exact List.pairwise_iff_getElem.mp nd i j hi hj q e
   · exact List.pairwise_iff_getElem.mp nd j i hj hi q e.symm
 generalize vs.getD i a2V=v at e1 ⊢
 generalize vs.getD j a2V=u at e2 ⊢
 obtain⟨a,o,xs,k,t1,rfl,a2,a3,a4,a5⟩:=t.2 i v _ e1 f1
 obtain⟨b,o',ys,k',t2,rfl,b2,b3,b4,b5⟩:=t.2 j u _ e2 f2
 refine kat_lt a2 a4 b2 b4 ?_
 have x1:xs.toList[0]?=some (.str (ns.getD i "") t1):=by rw[a7Z];exact a5
 have y1:ys.toList[0]?=some (.str (ns.getD j "") t2):=by rw[a7Z];exact b5
 obtain⟨xr,hx⟩:∃r,xs.toList = .str (ns.getD i "") t1::r:=by
   cases hh:xs.toList with
   | nil=>rw[hh] at x1;cases x1
   | cons q r=>rw[hh] at x1;cases x1;exact⟨r,rfl⟩
 obtain⟨yr,hy⟩:∃r,ys.toList = .str (ns.getD j "") t2::r:=by
   cases hh:ys.toList with
   | nil=>rw[hh] at y1;cases y1
   | cons q r=>rw[hh] at y1;cases y1;exact⟨r,rfl⟩
 rw[hx,hy,a7K]
 refine kat_cons (wpAny_eqBool_str ?_)
 rw[decide_eq_false hne]
 refine kat_no ?_
 show wpAny (model prog w) A (oneLt' true _ _) C (fun _ _=>False) s
 exact oneLt_str h
theorem RT {a:Addr}{vs:List Value}{ns:List Str}{n:Nat}{P:PySem.Fin->Shared->Prop}(ho:s.heap.get? a=some (seqObj "list" vs.toArray n)) (t:TupsN s.heap vs ns) (nd:ns.Nodup) (h64:vs.length < 64)
   (h:∀p:List Nat,p.Perm (a1Q vs.length)->(∀i j,i < j->j < vs.length->(ns.getD (p.getD i 0) "").cps.toList < (ns.getD (p.getD j 0) "").cps.toList) ->
     P (.done (.ret .none)) { s with heap:=sortedHeap s.heap a vs (p.map fun i=>vs.getD i a2V).toArray }) :
   wpAny (model prog w) A (Builtin.«list.sort» ⟨[.ref a],[]⟩) P E s:=by
 have ha:a < s.heap.objs.size:=zM ho
 rw[list_sort_plain];refine zZ (listItems_at ho rfl ?_)
 refine zZ (listUpdate_at ho rfl ?_ (by rw[zJ,sizeLine_eq];omega) (xT _));obtain⟨e1,ho1⟩:∃e1,(s.heap.update a (a7J fun _=>(#[]:Array Value))).get? a=some (seqObj "list" #[] e1):=⟨_,get?_update_seq ho (fun _=>#[])⟩
 refine zZ (seqEpoch_at ho1 rfl (zZ (wpAny_newTuple ?_ (by show vs.length<=_;rw[sizeLine_eq];omega))))
 refine zZ (wpAny_newList (wpAny_holding ?_) (xT _))
 have hsz:vs.toArray.size=vs.length:=zJ ..
 have keepT:∀b o,o.cls = .type "tuple" -> s.heap.get? b=some o->(((s.heap.update a (a7J fun _=>(#[]:Array Value))).push (seqObj "tuple" vs.toArray 0)).push (seqObj "list" #[] 0)).get? b=some o:=fun b o hc q=>by
   have hb:b≠a:=fun e=>by
     subst e
     rw[ho] at q
     cases q
     exact absurd hc (show ¬(Value.type "list"=Value.type "tuple") by decide)
   refine zW _ (zW _ ?_)
   rw[Heap.get?_update_ne _ _ _ _ hb]
   exact q
 have ho6:(((s.heap.update a (a7J fun _=>(#[]:Array Value))).push (seqObj "tuple" vs.toArray 0)).push (seqObj "list" #[] 0)).get? a=some (seqObj "list" #[] e1):=zW _ (zW _ ho1)
 show wpAny (model prog w) A _ P E { s with heap:=((s.heap.update a (a7J fun _=>(#[]:Array Value))).push (seqObj "tuple" vs.toArray 0)).push (seqObj "list" #[] 0) }
 dsimp only
 by_cases h2:vs.toArray.size < 2
 · rw[if_pos h2,if_pos h2]
   refine zZ (zY ?_)
   rw[StateT.run_pure]
   refine zZ (zY (zZ (seqEpoch_at ho6 rfl ?_)))
   have e3:(arrOf (SortSt.mk' general' (vs.toArray.zip vs.toArray) #[] 7 none)).map (·.2)=vs.toArray:=by
     show(vs.toArray.zip vs.toArray).map (·.2)=vs.toArray
     apply Array.toList_inj.mp
     rw[Array.toList_map,Array.toList_zip]
     exact List.map_snd_zip (zR _)
   rw[e3]
   refine zZ (listUpdate_at ho6 rfl ?_ (xT _) (by rw[zJ,sizeLine_eq];omega))
   simp only[bne_self_eq_false,b8X,if_false]
   have:=h (a1Q vs.length) (.refl _) (fun i j hij hj=>by omega)
   have e4:(a1Q vs.length).map (fun i=>vs.getD i a2V)=vs:=by
     apply b9W
     intro i
     rw[zF]
     by_cases hi:i < vs.length
     · rw[yA hi]
       simp[hi]
     · rw[a0V (by simp;omega),a0V (by omega)]
       rfl
   rw[e4] at this
   exact zY this
 · rw[if_neg h2,if_neg h2]
   have h2':2<=vs.length:=by omega
   have t6:=t.keep keepT
   obtain⟨fs,q1,q2,q3⟩:=t6.kat
   refine zZ (kat_kind (T:=.type "str") q1 (by have:=t.1;omega) (fun v hv=>?_) rfl ?_)
   · obtain⟨x,tt,rfl⟩:=q3 v hv
     exact Looks.of_pure rfl
   have hn:vs.length=ns.length:=t.1
   have S:Strict vs.length (fun i j=>decide (i < vs.length)&&(decide (j < vs.length)&&decide ((ns.getD i "").cps.toList < (ns.getD j "").cps.toList))):=by
     refine⟨fun i=>?_,fun i j k a b=>?_,fun i j hi hj hij=>?_⟩
     · simp[List.lt_irrefl]
     · simp only[a0W,decide_eq_true_eq] at a b ⊢
       exact⟨a.1,b.2.1,List.lt_trans a.2.2 b.2.2⟩
     · simp only[a0W,decide_eq_true_eq,hi,hj,true_and]
       have hne:(ns.getD i "").cps.toList≠(ns.getD j "").cps.toList:=fun e=>by
         have e':ns.getD i ""=ns.getD j "" := by
           generalize ns.getD i ""=x at e
           generalize ns.getD j ""=y at e
           obtain⟨⟨x⟩⟩:=x
           obtain⟨⟨y⟩⟩:=y
           simp at e
           rw[e]
         rw[yU,yU,zV (by omega),zV (by omega)] at e'
         rcases Nat.lt_or_gt_of_ne hij with q | q
         · exact List.pairwise_iff_getElem.mp nd i j (by omega) (by omega) q e'
         · exact List.pairwise_iff_getElem.mp nd j i (by omega) (by omega) q e'.symm
       by_cases c:(ns.getD i "").cps.toList < (ns.getD j "").cps.toList
       · exact .inl c
       · refine .inr ?_
         rcases List.le_iff_lt_or_eq.mp (List.not_lt.mp c) with z | z
         · exact z
         · exact absurd z.symm hne
   refine zZ (wpAny_mono (kat_run (ks:=vs) (G:=fun p s'=>s'={ s with heap:=((s.heap.update a (a7J fun _=>(#[]:Array Value))).push (seqObj "tuple" vs.toArray 0)).push (seqObj "list" #[] 0) }/\Pm vs.length p/\Up _ p vs.length)
     (Q:=fun st' s'=>s'={ s with heap:=((s.heap.update a (a7J fun _=>(#[]:Array Value))).push (seqObj "tuple" vs.toArray 0)).push (seqObj "list" #[] 0) }/\failedOf st'=none/\∃p:Array Nat,Pm vs.length p/\Up _ p vs.length/\(arrOf st').map (·.2)=List.toArray (p.toList.map fun i=>vs.getD i a2V))
     rfl h2' h64 (fun p st' s' a1 a2 a3 a4=>⟨a4.1,a3,p,a4.2.1,a4.2.2,kat_snds rfl a2⟩) ((h9 S (by omega)).wp (fun i j C hi hj hij hC=>?_) fun p hp=>⟨rfl,hp.1,hp.2⟩)) ?_ fun _ _ e=>e)
   · refine lJ t6 nd (by omega) (by omega) hij ?_
     simp only[hi,hj,decide_true,Bool.true_and] at hC
     exact hC
   · rintro⟨⟨⟩,st'⟩ s' ⟨rfl,hf,p,hp,hu,hm⟩
     dsimp only
     refine zZ (seqEpoch_at ho6 rfl ?_)
     rw[hm]
     refine zZ (listUpdate_at ho6 rfl ?_ (xT _) (by
       have z:=hp.length_eq
       simp only[xZ,a3J] at z
       simp only[zJ,zX,a3J]
       rw[sizeLine_eq];omega))
     rw[hf]
     simp only[bne_self_eq_false,b8X,if_false]
     refine zY (h p.toList hp fun i j hij hj=>?_)
     have:=hu i j hij hj
     simp only[a0W,decide_eq_true_eq] at this
     have ed:∀k,p.toList.getD k 0=p.getD k 0:=fun k=>by rw[yU,b6Q,a7Z]
     rw[ed,ed]
     exact this.2.2
theorem YH {l:Addr}{vs:List Value}{Q:List Value->Shared->Prop}(hl:s.heap.IsList l vs.toArray∨s.heap.IsTuple l vs.toArray)
   (h:Q vs { s with heap:=(s.heap.push (seqObj "list" #[] 0)).update s.heap.objs.size (a7J (·++vs.toArray)) }) (hsz:vs.length<=sizeLine) :
   wpAny (model prog w) A (collect (.ref l)) Q E s:=by
 rcases hl with hl | ⟨o,ho,hc,n,hd⟩
 · exact collect_list hl h hsz
 unfold collect
 refine zZ (wpAny_runValue (codeAny_builtin entry_proto_collect' ?_))
 show wpAny _ _ (do again (.builtin "list.__iadd__" ⟨[← newList [],.ref l],[]⟩)) _ _ s
 refine zZ (wpAny_newList (zY ⟨Code.quiet_builtin _ (by decide +kernel),codeAny_builtin entry_list_iadd' ?_⟩))
 show wpAny _ _ (Builtin.List.listExtendWith (.ref s.heap.objs.size) (.ref l) (.ref s.heap.objs.size)) _ _ { s with heap:=s.heap.push (seqObj "list" #[] 0) }
 unfold Builtin.List.listExtendWith
 have ho':(s.heap.push (seqObj "list" #[] 0)).get? l=some o:=zW _ ho
 refine zZ (wpAny_typeOf (T:= "tuple") ⟨o,ho',hc⟩ ?_)
 have ht:(Value.type "tuple" == Value.type "tuple")=true:=by rfl
 rw[if_pos (by rw[ht];simp)]
 refine zZ (listItems_at ho' hd ?_)
 refine zZ (listItems_at (xs:=#[]) (n:=0) (yZ _ rfl) rfl ?_)
 rw[if_neg (by simp)]
 refine zZ (listUpdate_at (xs:=#[]) (n:=0) (yZ _ rfl) rfl ?_ (xT _) (by show(#[]++vs.toArray).size<=sizeLine+1;simp only[Array.size_append,zJ,b2W];omega))
 refine zY ?_
 show wpAny (model prog w) A (do
     let o ← load s.heap.objs.size
     match o.data with
     | .seq xs _=>pure xs.toList
     | _=>unsupported "internal:collect") Q E { s with heap:=(s.heap.push (seqObj "list" #[] 0)).update s.heap.objs.size (a7J (·++vs.toArray)) }
 refine zZ (wpAny_load (get?_update_seq (yZ _ rfl) _) ?_)
 show wpAny _ _ (pure ((#[]:Array Value)++vs.toArray).toList) Q E _
 rw[show((#[]:Array Value)++vs.toArray).toList=vs by simp]
 exact zY h
theorem YI {l:Addr}{vs:List Value}{ns:List Str}{Q:Value->Shared->Prop}(hl:s.heap.IsList l vs.toArray∨s.heap.IsTuple l vs.toArray) (t:TupsN s.heap vs ns) (nd:ns.Nodup) (h64:vs.length < 64)
   (h:∀p:List Nat,p.Perm (a1Q vs.length)->(∀i j,i < j->j < vs.length->(ns.getD (p.getD i 0) "").cps.toList < (ns.getD (p.getD j 0) "").cps.toList) ->
     Q (.ref (s.heap.objs.size+1)) { s with heap:=sortedAll s.heap vs (p.map fun i=>vs.getD i a2V).toArray }) :
   wpAny (model prog w) A (call (.builtin "sorted") [.ref l]) Q E s:=by
 refine b7V kind_sorted plain_sorted entry_sorted (args_sorted1 _) ?_
 unfold Builtin.«sorted»;refine zZ (m:=checkCount "sorted" 1 1 _) (zY (zZ (YH hl (zZ (wpAny_newList ?_ (by rw[sizeLine_eq];omega))) (by rw[sizeLine_eq];omega))))
 generalize hH:(s.heap.push (seqObj "list" #[] 0)).update s.heap.objs.size (a7J (·++vs.toArray))=H1
 have hsz:H1.objs.size=s.heap.objs.size+1:=by rw[← hH,Heap.size_update,size_push']
 have old:∀b o,s.heap.get? b=some o->(H1.push (seqObj "list" vs.toArray 0)).get? b=some o:=fun b o q=>by
   refine zW _ ?_
   rw[← hH,Heap.get?_update_ne _ _ _ _ (zC (zM q))]
   exact zW _ q
 have hoL:(H1.push (seqObj "list" vs.toArray 0)).get? (s.heap.objs.size+1)=some (seqObj "list" vs.toArray 0):=by
   rw[← hsz];exact yZ _ rfl
 show wpAny _ _ _ _ _ { s with heap:=H1.push (seqObj "list" vs.toArray 0) }
 rw[hsz]
 refine zZ (wpAny_holding (wpAny_call_entry slot_list_sort ⟨_,hoL,rfl⟩ entry_list_sort (RT hoL (t.keep fun b o _ q=>old b o q) nd h64 fun p a1 a2=>⟨_,rfl,?_⟩) (args_list_sort _)))
 have:=h p a1 a2
 unfold sortedAll at this
 rw[hH] at this
 exact zY ⟨_,rfl,this⟩
theorem YJ {d:Addr}{kvs:List (Key×Value)}{ss:List Str}{Q:Value->Shared->Prop}(hh:A.handled=none) (hd:(d==sysModules)=false) (dd:s.heap.DictOf (AO prog w) d kvs) (hk:kvs.map (·.1)=ss.map a1Z) (h64:ss.length < 64)
   (h:∀(h1 h':Heap) (tk:Nat) (out:List Value) (e:Nat) (ss':List Str),(∀b o,s.heap.get? b=some o->h1.get? b=some o)->(∀b o,h1.get? b=some o->h'.get? b=some o)->h'.get? h1.objs.size=some (seqObj "list" out.toArray e)->StrsAre out ss'->ss'.Perm ss->sortedS ss'=true->Q (.ref h1.objs.size) { s with heap:=h',toks:=tk }) :
   wpAny (model prog w) A (call (.builtin "sorted") [.ref d]) Q E s:=by
 refine b7V kind_sorted plain_sorted entry_sorted (args_sorted1 _) ?_
 obtain⟨ep,hat⟩:=dd.dictAt
 have hlen:kvs.length=ss.length:=by have:=congrArg b2X hk;simpa using this
 unfold Builtin.«sorted»;refine zZ (m:=checkCount "sorted" 1 1 _) (zY (zZ (kdu_collect (A:=A.in1) (kdl_dict (kvs:=kvs) (ep:=ep) hd) hh hat (by rw[hlen,sizeLine_eq];omega) fun h' tk acc hold hacc=>?_)))
 have hl:acc.toList.length=ss.length:=by rw[a3J,hacc.1,hlen]
 have hS:StrsAre acc.toList ss:=by
   have go:∀(vs:List Value) (zs:List Str),vs.length=zs.length->(∀(i:Nat) v x,vs[i]?=some v->zs[i]?=some x->∃t,v=c1Q x t)->StrsAre vs zs:=by
     intro vs
     induction vs with
     | nil=>intro zs hz _;cases zs with
       | nil=>exact .nil
       | cons _ _=>simp at hz
     | cons v vs ih=>intro zs hz hv;cases zs with
       | nil=>simp at hz
       | cons x zs=>
         obtain⟨t,rfl⟩:=hv 0 v x rfl rfl
         exact .cons x t (ih zs (by simpa using hz) fun i v x e1 e2=>hv (i+1) v x (by simpa using e1) (by simpa using e2))
   refine go _ _ hl fun i v x e1 e2=>?_
   obtain⟨k,y,g1,g2⟩:=hacc.2 i v (by rw[← a7Z];exact e1)
   have e3:(kvs.map (·.1))[i]?=some k:=by rw[zF,g1];rfl
   rw[hk,zF,e2] at e3
   cases e3
   have g2':JM (.inr x) v=true:=g2
   rcases AS g2' with ⟨i,t,e,_⟩ | ⟨z,t,e,e'⟩
   · cases e
   · cases e;exact⟨t,e'⟩
 refine zZ (wpAny_newList ?_ (by rw[hl,sizeLine_eq];omega))
 have hoL:(h'.push (seqObj "list" acc.toList.toArray 0)).get? h'.objs.size=some (seqObj "list" acc.toList.toArray 0):=yZ _ rfl
 show wpAny _ _ _ _ _ { s with heap:=h'.push (seqObj "list" acc.toList.toArray 0),toks:=tk }
 refine zZ (wpAny_holding (wpAny_call_entry (s:={ s with heap:=h'.push (seqObj "list" acc.toList.toArray 0),toks:=tk }) slot_list_sort ⟨_,hoL,rfl⟩ entry_list_sort (list_sort_treeK strKind_oneLt hoL hS.keysOf (fun v₁ v₂ rest e=>keyKind_strs (by rw[← e];exact hS)) (by rw[hl];exact h64) fun st' hp hs=>⟨_,rfl,?_⟩) (args_list_sort _)))
 obtain⟨ss',h1,h2,h3⟩:=sorted_out_str hS hp hs
 obtain⟨e,he⟩:=sortedHeap_at (out:=(arrOf st').map (·.2)) hoL
 refine zY ⟨_,rfl,h h' _ tk ((arrOf st').map (·.2)).toList e ss' hold (fun b o q=>?_) (by rw[Array.toArray_toList];exact he) h1 h2 h3⟩
 have lt:b < h'.objs.size:=zM q
 rw[sortedHeap_old (zC lt) (by rw[size_push'];exact b0V lt)]
 exact zW _ q
end
end L2
namespace L2
open PySem PySem.Spec PyProof.Rows
theorem JV {prog:Program}{w:World}{A:Around}{R:Result->Shared->Prop}{s:Shared}{kx vx target iter:Expr}{ifs:List Expr}{scope:Scope}{pos:Pos}{it:Value}{D:Addr}{env:Env}(I:Nat->Shared->Prop)
   (turn:∀n s,I n s->wpAny (model prog w) A (pyNext it) (fun r s₁=>match r with
     | none=>R (.ok .next) s₁
     | some v=>wpAny (model prog w) A (letOwnedTupleGo target it v) (fun _ s₀=>wpAny (model prog w) A (assign target env v) (fun _ s₂=>
         wpAny (model prog w) A (LX ifs env) (fun ok s₃=>
           if ok=true then wpAny (model prog w) A (eval kx env) (fun kv s₄=>wpAny (model prog w) A (eval vx env) (fun vv s₅=>
             wpAny (model prog w) A (dictSet D kv vv) (fun _ s₆=>∃m,m < n/\I m s₆) (fun _ _=>False) s₅) (fun _ _=>False) s₄) (fun _ _=>False) s₃
           else ∃m,m < n/\I m s₃) (fun _ _=>False) s₂) (fun _ _=>False) s₀) (fun _ _=>False) s₁) (fun _ _=>False) s)
   (n:Nat) (h:I n s) :
   codeAny (model prog w) A (.compLoop (.DictComp kx vx [⟨target,iter,ifs,0⟩] scope pos) 0 it (.ref D) env) R s:=by
 refine codeAny_loop rfl I (fun n s hI=>?_) n h
 show wpAny _ A ((compTurn (.DictComp kx vx [⟨target,iter,ifs,0⟩] scope pos) 0 it (.ref D) env).onRaise (fun x=>do noteFrame x env;theTreesLotGoes x)) _ _ s
 refine wpAny_noted ?_
 rw[compTurn_dict]
 refine zZ (wpAny_standAt (zZ (wpAny_mono (B3 (turn n s hI)) (fun r s₁ h₁=>?_) fun _ _ h'=>h')))
 cases r with
 | none=>exact zY h₁
 | some v=>
   refine zZ (wpAny_mono (B3 h₁) (fun _ s₀ h₀=>?_) fun _ _ h'=>h')
   refine zZ (wpAny_mono (B3 h₀) (fun _ s₂ h₂=>zZ (wpAny_mono (B3 h₂) (fun ok s₃ h₃=>?_) fun _ _ h'=>h')) fun _ _ h'=>h')
   cases ok with
   | false=>exact zY ⟨rfl,h₃⟩
   | true=>
     exact zZ (zZ (wpAny_mono (B3 h₃) (fun kv s₄ h₄=>zZ (wpAny_holding (wpAny_mono (B3 h₄) (fun vv s₅ h₅=>zZ (wpAny_standAt (wpAny_holding (wpAny_mono (B3 h₅) (fun _ s₆ h₆=>zY ⟨rfl,h₆⟩) fun _ _ h'=>h')))) fun _ _ h'=>h'))) fun _ _ h'=>h'))
theorem wK {X:Cx}{pins:List (Addr×Obj)}{σ:St}{H:Hp}{s:Shared}{a:Addr}{kvs:List (Key×V)}{k:Key}{v:V}{u r:Value}{A:Around}{E:Value->Shared->Prop}{Q:Unit->Shared->Prop}
   (I:Inv X pins σ H s) (e:H a=some (.dK kvs)) (l:kvs.length < sizeLine) (ry:RelV (kV k) u) (rv:RelV v r) (h:∀s',Inv X pins σ (upd H a (.dK (EX kvs k v))) s'->Q () s'):wpAny (model X.prog X.w) A (dictSet a u r) Q E s:=by
 obtain⟨z,hd,vs,rel,dd⟩:=XR I.hok e
 have hz:vs.length<=sizeLine:=by rw[← rel.length];exact z
 have hl:(EX kvs k v).length<=sizeLine:=by have:=GF kvs k v;omega
 refine wpAny_dictSet_pairs (hsz:=hz) (JO ry) dd fun h' dd' hs=>h _ ?_
 have he:∃q,h'.get? a=some q:=let ⟨q,_,_,hq,_⟩:=dd';⟨q,hq⟩
 exact KH I (by rw[e];exact a7Q) hs he (R9 hl hd (rel.put k rv) dd')
def W8 (fr:List (Option Nat)) (wi:TI) (g:TG) (tt:TT) (tk tv:TE):TE:=fun σ H Q=>wi σ H fun J H1=>∀D,H1 D=none->∃W:Nat->Nat->List (Key×V)->Hp->Prop,(∃m,W 0 m [] (upd H1 D (.dK []))) /\
 ∀i m ys H2,W i m ys H2->H2 D=some (.dK ys)/\((J.stop i H2/\Q (.ref D) H2)∨(J.go i H2/\∀x H3,J.yld i H2 x H3->g x (capt fr σ) H3 fun σ2 H4=>
   (∀(i:Nat) v,(capt fr σ)[i]?=some (some v)->σ2[i]?=some (some v))/\tt σ2 H4 fun c H5=>if c=true then tk σ2 H5 fun x H6=>tv σ2 H6 fun y H7=>∃ys' k,x=kV k/\H7 D=some (.dK ys')/\ys'.length < sizeLine/\∃m',m' < m/\W (i+1) m' (EX ys' k y) (upd H7 D (.dK (EX ys' k y)))
     else ∃ys' m',m' < m/\W (i+1) m' ys' H5))
section
variable {X:Cx}{scope:Scope}{NC:List Str}{fr:List (Option Nat)}{pins:List (Addr×Obj)}{σ:St}{H:Hp}{s:Shared}
theorem hU {kx vx iter tg:Expr}{ifs:List Expr}{pos cpos:Pos}{wi:TI}{g:TG}{tt:TT}{tk tv:TE}{use:Option (Value->Sem Unit)}{Q:VK}{QQ:Value->Shared->Prop}
   (hc:X.calm=true) (S:CSc X scope NC fr) (hi:PI X tg iter wi)
   (hb:∀(C:Addr) (s:Shared) (H:Hp) (ex:List Addr) (pn:List (Addr×Obj)),PG (BM X scope NC C s H ex pn) tg g/\PTs (BM X scope NC C s H ex pn) ifs tt/\PE (BM X scope NC C s H ex pn) kx tk/\PE (BM X scope NC C s H ex pn) vx tv)
   (I:Inv X pins σ H s) (hu:X.A.units+1 < cLine) (h:W8 fr wi g tt tk tv σ H Q)
   (fin:∀(D C:Addr) (H':Hp) (s':Shared) (m:Str->Option Value) (oC:Obj),Inv X (pins++[(C,oC)]) σ H' s'->s'.heap.Ns C m->Q (.ref D) H' ->
     (∀(pins':List (Addr×Obj)) (σ2:St) (H2:Hp) (s2:Shared) (h2:Heap),Inv X (pins++[(C,oC)]) σ2 H2 s2->Heap.SameBut C s2.heap h2->Inv X pins σ2 H2 { s2 with heap:=h2 }) ->
     s'.heap.get? C=some oC ->
     match use with
     | none=>∀h',Heap.SameBut C s'.heap h'->QQ (.ref D) { s' with heap:=h' }
     | some u=>wpAny (model X.prog X.w) X.A (u (.ref D)) (fun _ s''=>∃m,s''.heap.Ns C m/\∀h',Heap.SameBut C s''.heap h'->QQ .none { s'' with heap:=h' }) X.xe s')
   (hs:∀x,foldedSetIterable iter X.env x=pure x) :
   wpAny (model X.prog X.w) X.A (comprehension (.DictComp kx vx [⟨tg,iter,ifs,0⟩] scope pos) scope X.env cpos newDict false (eval iter X.env) use) QQ X.xe s:=by
 refine wpAny_comprehension_free (use:=use) rfl hs (dC (S.has I.ok)) S.kind S.names (thn (hi pins s σ H _ I h) fun v s1 h1=>thn h1 fun itv s2 h2=>?_)
 obtain⟨it,fp,tn,J,H2,e,I2,T,st2,f2,hq⟩:=h2
 subst e
 have hDn:H2 s2.heap.objs.size=none:=I2.hok.fresh (zR _)
 obtain⟨W,⟨m0,w0⟩,turn⟩:=hq s2.heap.objs.size hDn
 refine xM (wpAny_newFunctionEnv S.nocell (by intro y hy;simp at hy) (fun h₁ hns₁ hsb₁=>?_) S.kind)
 dsimp only at hns₁ hsb₁ ⊢
 generalize hs3:({ s2 with heap:=s2.heap.push { cls:=.type "dict", dict:=none,data:=.dict #[] } }:Shared)=s3
 have hh3:s2.heap.push { cls:=.type "dict", dict:=none,data:=.dict #[] }=s3.heap:=by rw[← hs3]
 have I3:Inv X pins σ (upd H2 s2.heap.objs.size (.dK [])) s3:=by
   rw[← hs3]
   refine I2.laid (t':=s2.toks) (fun b u e=>zW _ e) (zR _) ?_
   exact XT s2.heap I2.big
 rw[hh3] at hns₁ hsb₁ ⊢
 have sz3:s3.heap.objs.size=s2.heap.objs.size+1:=by rw[← hh3,a8X]
 have lt2:∀b∈fp,b < s2.heap.objs.size:=fun b hb=>by
   obtain⟨o,e,_⟩:=T.obj _ _ st2 b hb
   exact zM e
 have lt3:∀b∈fp,b < s3.heap.objs.size:=fun b hb=>by rw[sz3];exact b0V (lt2 b hb)
 have f3:∀b∈fp,LT X pins (upd H2 s2.heap.objs.size (.dK [])) b:=fun b hb=>⟨by rw[AM (zC (lt2 b hb))];exact(f2 b hb).1,(f2 b hb).2⟩
 have keep1:∀b o,s3.heap.get? b=some o->h₁.get? b=some o:=fun b o e=>hsb₁.extBut b o (zC (zM e)) (zW _ e)
 generalize hC:s3.heap.objs.size=C at hns₁ hsb₁ ⊢
 have I0:Inv (BM X scope NC C s3 (upd H2 s2.heap.objs.size (.dK [])) fp (X.pn++pins)) [] (capt fr σ) (upd H2 s2.heap.objs.size (.dK [])) { s2 with heap:=h₁,toks:=s2.toks+([]:List (Str×Value)).length }:=by
   have:=RC (tk:=s2.toks+([]:List (Str×Value)).length) (h1:=h₁) S I3 f3 lt3 (hC▸hns₁) keep1
   rw[hC] at this
   rw[← hs3] at this
   rw[← hs3]
   exact this
 obtain⟨hbg,hbt,hbk,hbv⟩:=hb C s3 (upd H2 s2.heap.objs.size (.dK [])) fp (X.pn++pins)
 generalize hX':BM X scope NC C s3 (upd H2 s2.heap.objs.size (.dK [])) fp (X.pn++pins)=X' at I0 hbg hbt hbk hbv
 have eP:X'.prog=X.prog:=by rw[← hX'];rfl
 have eW:X'.w=X.w:=by rw[← hX'];rfl
 have eK:X'.K=X.K:=by rw[← hX'];rfl
 have eA:X'.A=X.A:=by rw[← hX'];rfl
 have eE:X'.env=compEnvC scope (LV X.env.cells scope.names []) C X.env:=by rw[← hX'];rfl
 have eX:X'.xe=fun _ _=>False:=by rw[← hX'];rfl
 have ec:X'.calm=true:=by rw[← hX'];exact hc
 have stat:∀{H':Hp},(∀b∈fp,H' b=none)->∀b∈fp,LT X' [] H' b:=fun {H'} hn b hb=>by
   obtain⟨q1,q2,q3,q4,q5,q6⟩:=f3 b hb
   rw[← hX']
   exact⟨hn b hb,by show b≠C;rw[← hC];exact zC (lt3 b hb),fun z=>(yX.mp (I3.stkSub b z)).elim q2 q3,.inl hb,fun x c e=>q5 x c (BZ e),fun p hp=>q6 p (by rw[a2W] at hp;exact hp)⟩
 have ends:∀(i m:Nat) (ys:List (Key×V)) (H':Hp) (s':Shared),Inv X' [] (capt fr σ) H' s'->Q (.ref s2.heap.objs.size) H' ->
     compPost (model X.prog X.w) X.A X.xe use QQ (.ref s2.heap.objs.size) C (.ok .next) s':=by
   intro i m ys H' s' I' q'
   have eC:X'.env.locals=C:=by rw[eE];rfl
   obtain⟨mC,hnC,_⟩:=I'.loc
   rw[eC] at hnC
   have hCn:H' C=none:=by have:=I'.free;rw[eC] at this;exact this
   have un:Un (frs X.stack) fp (upd H2 s2.heap.objs.size (.dK [])) H' s3.heap s'.heap:=by
     have:=I'.base
     rw[← hX'] at this
     exact this
   have os':s'.os=s3.os:=by have:=I'.os;rw[← hX'] at this;exact this
   have hok':HOk X.prog X.w H' s'.heap:=by have:=I'.hok;rw[eP,eW] at this;exact this
   have Iout:Inv X pins σ H' s':=I3.call' (ch:=fp) os' un hok' I'.bare fun b hb=>⟨(f3 b hb).2.2.2.1,(f3 b hb).2.1,(f3 b hb).2.2.2.2.1,(f3 b hb).2.2.2.2.2⟩
   have C1:C≠X.env.locals:=by rw[← hC];exact a8Q I3.lt
   have C2:C∉X.fs:=by rw[← hC];exact I3.nofs (zR _)
   have C3:X.s₀.heap.objs.size<=C:=by rw[← hC];exact I3.sz
   have C4:∀x c,X.env.cells.lookup x=some c->c≠C:=fun x c e z=>by
     obtain⟨v,q⟩:=I3.cell x c e
     rw[z,← hC] at q
     exact absurd q.lt (yF _)
   have C5:∀p∈X.pn++pins,p.1≠C:=fun p hp z=>by
     have:=zM (I3.pin p hp).1
     rw[z,← hC] at this
     exact absurd this (yF _)
   obtain⟨oC,esC,epC,hoC,hdC,hrC⟩:=id hnC
   have Ipin:Inv X (pins++[(C,oC)]) σ H' s':=Iout.pins_of fun p hp=>(yW.mp hp).elim (fun z=>Iout.pin p (zB _ z)) fun z=>by
     have e:p=(C,oC):=by simpa using z
     subst e
     exact⟨hoC,hCn,C1,C2,fun v z=>by rw[hdC] at z;cases z⟩
   have res:=fin s2.heap.objs.size C H' s' mC oC Ipin hnC q' (fun _ σ2 H3 s4 h4 I4 sb=>by
     have J4:Inv X pins σ2 H3 s4:=I4.unpinned
     have hn4:H3 C=none:=(I4.pin (C,oC) (zB _ (zB _ (by simp)))).2.1
     exact J4.turned (t':=s4.toks) (it:=C) (fun b o hb e=>sb.extBut b o hb e) hn4 C1 (.inr C3) C4 C5) hoC
   cases use with
   | none=>exact⟨mC,hnC,res⟩
   | some u=>exact res
 have loop:∀s':Shared,s'={ s2 with heap:=h₁,toks:=s2.toks+([]:List (Str×Value)).length } ->
     codeAny (model X.prog X.w) X.A (.compLoop (.DictComp kx vx [⟨tg,iter,ifs,0⟩] scope pos) 0 (.ref it) (.ref s2.heap.objs.size) (compEnvC scope (LV X.env.cells scope.names []) C X.env))
       (compPost (model X.prog X.w) X.A X.xe use QQ (.ref s2.heap.objs.size) C) s':=by
   rintro s' rfl
   refine JV (fun n s'=>∃i ys H',Inv X' [] (capt fr σ) H' s'/\tn i s'.heap/\(∀b∈fp,H' b=none)/\W i n ys H') ?_ m0
     ⟨0,[],_,I0,T.keep _ _ _ st2 (fun b hb o e=>keep1 b o (by rw[← hh3];exact zW _ e)),fun b hb=>(f3 b hb).1,w0⟩
   rintro n s5 ⟨i,ys,H5,I5,st5,fr5,w5⟩
   obtain⟨hD5,hturn⟩:=turn i n ys H5 w5
   rcases hturn with ⟨stop,qn⟩ | ⟨go,step⟩
   · have:=T.done X' eP eW eK ec i [] s5 (capt fr σ) H5 (fun _ _=>False) I5 (stat fr5) st5 stop
     rw[eA] at this
     refine thn this fun r s6 ⟨hr,I6⟩=>?_
     subst hr
     exact ends i n ys H5 s6 I6 qn
   · have:=T.item X' eP eW eK ec i [] s5 (capt fr σ) H5 (fun _ _=>False) I5 (stat fr5) st5 go
     rw[eA] at this
     refine thn this fun r s6 ⟨u,hr,h6⟩=>?_
     subst hr
     refine thn h6 fun _ s7 ⟨x,H7,I7,r7,y7,st7,fr7⟩=>?_
     have I7':=I7.pinned (stat fr7) (T.obj _ _ st7)
     have hg1:=hbg _ s7 (capt fr σ) H7 x u _ I7' r7 (step x H7 y7)
     rw[eP,eW,eA,eE,eX] at hg1
     refine thn hg1 fun _ s8 ⟨σ8,H8,I8,ext8,q8⟩=>?_
     have ht1:=hbt _ s8 σ8 H8 _ I8 q8
     rw[eP,eW,eA,eE,eX] at ht1
     refine thn ht1 fun ok s9 ⟨H9,I9,q9⟩=>?_
     have weak:∀{H':Hp}{s':Shared},Inv X' ([]++OB fp s7.heap) σ8 H' s'->Inv X' [] (capt fr σ) H' s'/\tn (i+1) s'.heap/\∀b∈fp,H' b=none:=fun {H' s'} I'=>by
       refine⟨I'.unpinned.weak (by rw[I'.len];rw[I0.len]) ext8,T.keep _ _ _ st7 fun b hb o e=>(I'.pin (b,o) (zB _ (zB _ (E8 hb e)))).1,fun b hb=>?_⟩
       obtain⟨o,e,d⟩:=T.obj _ _ st7 b hb
       exact(I'.pin (b,o) (zB _ (zB _ (E8 hb e)))).2.1
     cases ok with
     | false=>
       rw[if_neg nft] at q9
       obtain⟨ys',m',hm',w'⟩:=q9
       obtain⟨a1,a2,a3⟩:=weak I9
       exact⟨m',hm',i+1,ys',H9,a1,a2,a3,w'⟩
     | true=>
       rw[if_pos rfl] at q9
       have he1:=hbk _ s9 σ8 H9 _ I9 q9
       rw[eP,eW,eA,eE,eX] at he1
       refine thn he1 fun yk s10 ⟨kv,H10,I10,r10,q10⟩=>?_
       have he2:=hbv _ s10 σ8 H10 _ I10 q10
       rw[eP,eW,eA,eE,eX] at he2
       refine thn he2 fun yv s11 ⟨vv,H11,I11,r11,ys',k,ek,hD11,hsz,m',hm',w'⟩=>?_
       subst ek
       have hset:=wK (A:=X'.A) (E:=X'.xe) (Q:=fun _ s'=>∃m'',m'' < n/\∃i ys H',Inv X' [] (capt fr σ) H' s'/\tn i s'.heap/\(∀b∈fp,H' b=none)/\W i m'' ys H') I11 hD11 hsz r10 r11 fun s' I'=>by
         obtain⟨a1,a2,a3⟩:=weak I'
         exact⟨m',hm',i+1,_,_,a1,a2,a3,w'⟩
       rw[eP,eW,eA,eX] at hset
       exact hset
 refine codeAny_compStart_dict (loop _ rfl) (T.self _ 0 _ _ _ ?_ (loop _ rfl))
 exact T.keep _ _ _ st2 (fun b hb o e=>keep1 b o (by rw[← hh3];exact zW _ e))
theorem lK {kx vx iter tg:Expr}{ifs:List Expr}{pos:Pos}{wi:TI}{g:TG}{tt:TT}{tk tv:TE}(hc:X.calm=true) (hu:X.A.units+1 < cLine) (S:CSc X scope NC fr) (hi:PI X tg iter wi)
   (hb:∀(C:Addr) (s:Shared) (H:Hp) (ex:List Addr) (pn:List (Addr×Obj)),PG (BM X scope NC C s H ex pn) tg g/\PTs (BM X scope NC C s H ex pn) ifs tt/\PE (BM X scope NC C s H ex pn) kx tk/\PE (BM X scope NC C s H ex pn) vx tv)
   (hs:∀x,foldedSetIterable iter X.env x=pure x:=by intro _;rfl):PE X (.DictComp kx vx [⟨tg,iter,ifs,0⟩] scope pos) (W8 fr wi g tt tk tv):=by
 intro pins s σ H Q I h
 rw[arm_eval_DictComp]
 refine hU (use:=none) (Q:=Q) hc S hi hb I hu h (fun D C H' s' m oC I' hn q back _ h' sb=>?_) hs
 exact⟨.ref D,H',back pins σ H' s' h' I' sb,rfl,q⟩
end
end L2
namespace L2
open PySem PySem.Spec PyProof.Rows PySem.W
def lL (K:Frg):List V->Hp->VK->Prop:=fun xs H Q=>∃(p:Addr) (es:List (Addr×Str×List V)),xs=[.ref p]/\(SqL K H p (es.map fun e=>V.ref e.1)∨SqT K H p (es.map fun e=>V.ref e.1))/\(∀e∈es,SqT K H e.1 (.str e.2.1::e.2.2))/\(es.map fun e=>e.2.1).Nodup/\es.length < 64 /\
 ∀(es':List (Addr×Str×List V)) (q:Addr),es'.Perm es->es'.Pairwise (fun x y=>x.2.1.cps.toList < y.2.1.cps.toList)->H q=none->Q (.ref q) (upd H q (.lst (es'.map fun e=>V.ref e.1)))
def lM:List V->Hp->VK->Prop:=fun xs H Q=>∃(p:Addr) (kvs:List (Key×V)) (ss:List Str),xs=[.ref p]/\Rd H p (.dK kvs)/\kvs.map (·.1)=ss.map a1Z/\ss.length < 64 /\
 ∀(ss':List Str) (q:Addr),ss'.Perm ss->sortedS ss'=true->H q=none->Q (.ref q) (upd H q (.lst (ss'.map V.str)))
def OJ (K:Frg):List V->Hp->VK->Prop:=fun xs H Q=>kS K xs H Q∨lL K xs H Q∨lM xs H Q
section
variable {X:Cx}
theorem US:∀{es:List (Addr×Str×List V)}{its:List Value},Vals (es.map fun e=>V.ref e.1) its->its=es.map fun e=>a0Z e.1
 | [],_,.nil=>rfl
 | _::_,_,.cons r t=>by rw[US t];cases r;rfl
theorem UT:∀{es:List (Addr×Str×List V)},Vals (es.map fun e=>V.ref e.1) (es.map fun e=>a0Z e.1)
 | []=>.nil
 | _::_=>.cons rfl UT
theorem bM:BO X (.builtin "sorted") (lL X.K):=by
 intro pins s σ H xs us Q I r h
 obtain⟨p,es,rfl,hp,ht,nd,h64,q⟩:=h
 obtain⟨u,rfl,ru⟩:=F6 r
 cases ru
 obtain⟨its,rv,pl⟩:∃its:List Value,Vals (es.map fun e=>V.ref e.1) its/\(s.heap.IsList p its.toArray∨s.heap.IsTuple p its.toArray):=by
   rcases hp with hp | hp
   · obtain⟨its,rv,pl,_⟩:=I.list hp
     exact⟨its,rv,.inl pl.isList⟩
   · obtain⟨its,rv,pl,_⟩:=I.tuple hp
     exact⟨its,rv,.inr pl⟩
 have ei:=US rv
 subst ei
 have tn:TupsN s.heap (es.map fun e=>a0Z e.1) (es.map fun e=>e.2.1):=by
   refine⟨by simp,fun i v nm e1 e2=>?_⟩
   rw[zF] at e1 e2
   cases he:es[i]? with
   | none=>rw[he] at e1;cases e1
   | some e=>
     rw[he] at e1 e2
     cases e1
     cases e2
     obtain⟨js,rj,⟨o,ho,hc,n,hd⟩,_⟩:=I.tuple (ht e (yN he))
     cases rj with
     | cons r0 _=>
       obtain⟨t,rfl⟩:=r0
       exact⟨e.1,o,_,n,t,rfl,ho,hc,hd,by simp⟩
 refine YI pl tn nd (by simpa using h64) fun pm h1 h2=>?_
 simp only[zX] at h1 h2
 obtain⟨e,he⟩:=sortedAll_at s.heap (es.map fun e=>a0Z e.1) (pm.map fun i=>(es.map fun e=>a0Z e.1).getD i a2V).toArray
 have hn:H (s.heap.objs.size+1)=none:=I.hok.fresh (b4X _)
 obtain⟨es',he'⟩:∃es':List (Addr×Str×List V),es'=pm.filterMap fun i=>es[i]?:=⟨_,rfl⟩
 have hin:∀i∈pm,i < es.length:=fun i hi=>List.mem_range.mp (h1.mem_iff.mp hi)
 have emap:∀(l:List Nat),(∀i∈l,i < es.length)->(l.filterMap fun i=>es[i]?)=l.attach.map fun i=>es.getD i.1 (0, "", []):=fun l=>by
   intro hl
   induction l with
   | nil=>rfl
   | cons a l ih=>
     have ha:=hl a (by simp)
     rw[a6K,zV ha]
     simp only[List.attach_cons,zI,zD]
     rw[ih fun i hi=>hl i (yV _ hi)]
     simp[yU,zV ha]
 have emap':es'=pm.map fun i=>es.getD i (0, "", []):=by
   rw[he',emap pm hin]
   simp
 have perm:es'.Perm es:=by
   rw[he']
   refine(h1.filterMap _).trans ?_
   rw[show((a1Q es.length).filterMap fun i=>es[i]?)=es from ?_]
   apply b9W
   intro i
   have:((a1Q es.length).filterMap fun i=>es[i]?)=(a1Q es.length).map fun i=>es.getD i (0, "", []):=by
     rw[emap _ fun i hi=>List.mem_range.mp hi]
     simp
   rw[this,zF]
   by_cases hi:i < es.length
   · rw[yA hi]
     simp[hi]
   · rw[a0V (by simp;omega),a0V (by omega)]
     rfl
 have outs:(pm.map fun i=>(es.map fun e=>a0Z e.1).getD i a2V)=es'.map fun e=>a0Z e.1:=by
   rw[emap',zD]
   apply yM
   intro i hi
   have hi:=hin i hi
   simp[yU,zF,zV hi]
 have lenp:pm.length=es.length:=by have:=h1.length_eq;simpa using this
 have srt:es'.Pairwise (fun x y=>x.2.1.cps.toList < y.2.1.cps.toList):=by
   rw[emap',a3V,b8K]
   intro i j hi hj hij
   have:=h2 i j hij (by omega)
   have g:∀k (hk:k < pm.length),(es.map fun e=>e.2.1).getD (pm.getD k 0) (a0Q "")=(es.getD pm[k] (0, "", [])).2.1:=fun k hk=>by
     have hk':=hin pm[k] (b1K hk)
     rw[yU (l:=pm),zV hk]
     simp[yU,zF,zV hk']
   rw[g i hi,g j hj] at this
   exact this
 rw[outs] at he ⊢
 refine⟨.ref (s.heap.objs.size+1),_,I.laid (t':=s.toks) (o:=.lst (es'.map fun e=>V.ref e.1)) (fun b o eb=>sortedAll_old eb) (b4X _) ?_,rfl,q es' _ perm srt hn⟩
 refine⟨by rw[zX,perm.length_eq];exact zN (xR h64) (by decide),es'.map fun e=>a0Z e.1,e,UT,?_⟩
 have he':=he
 simpa [seqObj] using he'
theorem bN (hc:X.calm=true):BO X (.builtin "sorted") lM:=by
 intro pins s σ H xs us Q I r h
 obtain⟨p,kvs,ss,rfl,hp,hk,h64,q⟩:=h
 obtain⟨u,rfl,ru⟩:=F6 r
 cases ru
 obtain⟨z,hd,vs,rel,dd⟩:=JP I.hok hp
 have hk':vs.map (·.1)=ss.map a1Z:=by
   rw[← hk]
   clear hk dd z hp q
   unfold KV at rel
   induction rel with
   | nil=>rfl
   | cons h t ih=>simp[h.1,ih]
 refine YJ (I.ok.hd hc) hd dd hk' h64 fun h1 h' tk out e ss' k1 k2 ho hS hperm hsort=>?_
 have I1:Inv X pins σ H { s with heap:=h1,toks:=tk }:=I.kept k1
 have hn:H h1.objs.size=none:=I1.hok.fresh (zR _)
 refine⟨.ref h1.objs.size,_,I1.laid (t':=tk) (o:=.lst (ss'.map V.str)) (h':=h') k2 (zR _) ?_,rfl,q ss' _ hperm hsort hn⟩
 refine⟨by rw[zX,hperm.length_eq];exact zN (xR h64) (by decide),out,e,kR hS,?_⟩
 simpa [seqObj] using ho
theorem RU (hc:X.calm=true):BO X (.builtin "sorted") (OJ X.K):=by
 intro pins s σ H xs us Q I r h
 rcases h with h | h | h
 · exact aX pins s σ H xs us Q I r h
 · exact bM pins s σ H xs us Q I r h
 · exact bN hc pins s σ H xs us Q I r h
end
end L2
namespace DL
open PySem PySem.Spec L2
def B0 (ts:List (Str×PyData)):List (PyData×PyData):=ts.map fun t=>(a0K t.1,t.2)
def YK (ts:List (Str×PyData)) (k:Str) (d:PyData):List (Str×PyData):=
 if (ts.any fun t=>decide (t.1=k))=true then ts.map (fun t=>if t.1=k then (t.1,d) else t) else ts++[(k,d)]
def UU (ts:List (Str×PyData)) (k:Str):List (Str×PyData):=ts.filter fun t=>decide (t.1≠k)
def B1:List (Str×PyData)->Str->Option PyData
 | [],_=>none
 | t::r,k=>if t.1=k then some t.2 else B1 r k
section
variable {K:Frg}{H:Hp}{W:Addr->Prop}
theorem CP {t:Str×PyData}{ts:List (Str×PyData)}{ks:List (Key×V)}:DKV K H W (B0 (t::ts)) ks↔∃v r,ks=(a1Z t.1,v)::r/\DV K H W t.2 v/\DKV K H W (B0 ts) r:=by
 unfold B0
 rw[zI]
 constructor
 · intro h
   unfold DKV at h
   obtain⟨k',v,r,e,e2,h1,h2⟩:=h
   cases k' with
   | inl i=>cases e2
   | inr x=>
     have e3:t.1=x:=by simpa [gC] using e2
     subst e3
     exact⟨v,r,e,h1,h2⟩
 · rintro⟨v,r,e,h1,h2⟩
   unfold DKV
   exact⟨a1Z t.1,v,r,e,rfl,h1,h2⟩
theorem FG {ks:List (Key×V)}:DKV K H W (B0 []) ks↔ks=[]:=by unfold B0;simp only[a4J];unfold DKV;exact Iff.rfl
theorem YL:∀{ts:List (Str×PyData)}{ks:List (Key×V)},DKV K H W (B0 ts) ks->ks.map (·.1)=(ts.map (·.1)).map a1Z
 | [],ks,h=>by rw[FG.mp h];rfl
 | t::ts,ks,h=>by obtain⟨v,r,rfl,_,h2⟩:=CP.mp h;simp[YL h2]
theorem dX {k:Str}:∀{ts:List (Str×PyData)}{ks:List (Key×V)},DKV K H W (B0 ts) ks->(ks.any fun kv=>decide (kv.1=a1Z k))=ts.any fun t=>decide (t.1=k)
 | [],ks,h=>by rw[FG.mp h];rfl
 | t::ts,ks,h=>by
   obtain⟨v,r,rfl,_,h2⟩:=CP.mp h
   rw[a9J,a9J,dX h2]
   congr 1
   by_cases e:t.1=k
   · rw[decide_eq_true e,decide_eq_true (by rw[e])]
   · rw[decide_eq_false e,decide_eq_false fun q=>e (by injection q)]
theorem RV {k:Str}{d:PyData}{v:V}(hd:DV K H W d v):∀{ts:List (Str×PyData)}{ks:List (Key×V)},DKV K H W (B0 ts) ks ->
   DKV K H W (B0 (ts.map fun t=>if t.1=k then (t.1,d) else t)) (ks.map fun kv=>if kv.1=a1Z k then (kv.1,v) else kv)
 | [],ks,h=>by rw[FG.mp h];exact FG.mpr rfl
 | t::ts,ks,h=>by
   obtain⟨u,r,rfl,h1,h2⟩:=CP.mp h
   rw[zI,zI]
   by_cases e:t.1=k
   · rw[if_pos e,if_pos (by rw[e])]
     exact CP.mpr ⟨v,_,rfl,hd,RV hd h2⟩
   · rw[if_neg e,if_neg fun q=>e (by injection q)]
     exact CP.mpr ⟨u,_,rfl,h1,RV hd h2⟩
theorem YM {k:Str}{d:PyData}{v:V}(hd:DV K H W d v):∀{ts:List (Str×PyData)}{ks:List (Key×V)},DKV K H W (B0 ts) ks->DKV K H W (B0 (ts++[(k,d)])) (ks++[(a1Z k,v)])
 | [],ks,h=>by rw[FG.mp h];exact CP.mpr ⟨v,[],rfl,hd,FG.mpr rfl⟩
 | t::ts,ks,h=>by
   obtain⟨u,r,rfl,h1,h2⟩:=CP.mp h
   exact CP.mpr ⟨u,_,rfl,h1,YM hd h2⟩
theorem dY {k:Str}{d:PyData}{v:V}{ts:List (Str×PyData)}{ks:List (Key×V)}(h:DKV K H W (B0 ts) ks) (hd:DV K H W d v):DKV K H W (B0 (YK ts k d)) (EX ks (a1Z k) v):=by
 unfold YK EX
 rw[dX h]
 by_cases c:(ts.any fun t=>decide (t.1=k))=true
 · rw[if_pos c,if_pos c];exact RV hd h
 · rw[if_neg c,if_neg c];exact YM hd h
theorem RW {k:Str}:∀{ts:List (Str×PyData)}{ks:List (Key×V)},DKV K H W (B0 ts) ks->DKV K H W (B0 (UU ts k)) (MQ ks (a1Z k))
 | [],ks,h=>by rw[FG.mp h];exact FG.mpr rfl
 | t::ts,ks,h=>by
   obtain⟨u,r,rfl,h1,h2⟩:=CP.mp h
   have ih:=RW (k:=k) h2
   unfold UU MQ at ih ⊢
   by_cases e:t.1=k
   · rw[a7X,a7X,if_neg (by simp[e]),if_neg (by simp[e])]
     exact ih
   · rw[a7X,a7X,if_pos (by simpa using e),if_pos (by simp;exact e)]
     exact CP.mpr ⟨u,_,rfl,h1,ih⟩
theorem HJ {k:Str}:∀{ts:List (Str×PyData)}{ks:List (Key×V)},DKV K H W (B0 ts) ks->(∃d v,B1 ts k=some d/\E9 ks (a1Z k)=some v/\DV K H W d v)∨(B1 ts k=none/\E9 ks (a1Z k)=none)
 | [],ks,h=>by rw[FG.mp h];exact .inr ⟨rfl,rfl⟩
 | t::ts,ks,h=>by
   obtain⟨u,r,rfl,h1,h2⟩:=CP.mp h
   by_cases e:t.1=k
   · exact .inl ⟨t.2,u,by simp[B1,e],JN (by rw[e]),h1⟩
   · have e':¬(a1Z t.1:Key)=a1Z k:=fun q=>e (by injection q)
     rcases HJ (k:=k) h2 with ⟨d,v,a1,a2,a3⟩ | ⟨a1,a2⟩
     · exact .inl ⟨d,v,by simp[B1,e,a1],by rw[FV (p:=(a1Z t.1,u)) e'];exact a2,a3⟩
     · exact .inr ⟨by simp[B1,e,a1],by rw[FV (p:=(a1Z t.1,u)) e'];exact a2⟩
theorem MW:∀{kvs:List (PyData×PyData)}{ks:List (Key×V)},DKV K H W kvs ks->ks.length=kvs.length
 | [],ks,h=>by unfold DKV at h;subst h;rfl
 | (k,d)::r,ks,h=>by unfold DKV at h;obtain⟨_,_,_,rfl,_,_,h2⟩:=h;simp[MW h2]
end
section
variable {K:Frg}{M:Own}{Q:DS->Own->Prop}{ρ:List (Option DS)}{H:Hp}{td ty tv:TE}{D:EndsD}
theorem EK (h:DE K td ρ M fun x M1=>DE K ty ρ M1 fun y M2=>∃(a:Addr) (ts:List (Str×PyData)) (k:Str) (d:PyData),x = .loc a/\y = .d (.str k)/\M2 a=some (.d (B0 ts))/\B1 ts k=some d/\Q (.d d) M2):DE K (jR td ty) ρ M Q:=fun σ H QQ R kk=>
 h σ H _ R fun v H1 x M1 o1 s1 t1 h1=>h1 σ H1 _ (R.step o1 t1) fun u H2 y M2 o2 s2 t2 h2=>by
   obtain⟨a,ts,k,d,rfl,rfl,m,l,q⟩:=h2
   unfold SI at s1
   subst s1
   rw[BA s2]
   obtain⟨ks,e1,e2⟩:=o2 a _ m
   rcases HJ (k:=k) e2 with ⟨d',w',a1,a2,a3⟩ | ⟨a1,a2⟩
   · rw[l] at a1
     cases a1
     exact⟨a,w',rfl,.inl ⟨ks,a1Z k,.inl e1,rfl,a2.symm⟩,kk _ H2 (.d d) M2 o2 a3 (t1.trans t2) q⟩
   · rw[l] at a1;cases a1
theorem dZ (h:DE K ty ρ M fun y M1=>DE K td ρ M1 fun x M2=>∃(a:Addr) (ts:List (Str×PyData)) (k:Str),x = .loc a/\y = .d (.str k)/\M2 a=some (.d (B0 ts))/\Q (.d (.bool (B1 ts k).isSome)) M2):DE K (v7 ty td) ρ M Q:=fun σ H QQ R kk=>
 h σ H _ R fun v H1 x M1 o1 s1 t1 h1=>h1 σ H1 _ (R.step o1 t1) fun u H2 y M2 o2 s2 t2 h2=>by
   obtain⟨a,ts,k,rfl,rfl,m,q⟩:=h2
   unfold SI at s2
   subst s2
   rw[BA s1]
   obtain⟨ks,e1,e2⟩:=o2 a _ m
   refine⟨a,E9 ks (a1Z k),rfl,.inl ⟨ks,a1Z k,.inl e1,rfl,rfl⟩,kk _ H2 _ M2 o2 ?_ (t1.trans t2) q⟩
   rcases HJ (k:=k) e2 with ⟨d',w',a1,a2,a3⟩ | ⟨a1,a2⟩
   · rw[a1,a2];exact AI
   · rw[a1,a2];exact AI
theorem MX (h:DE K tv ρ M fun z M1=>DE K td ρ M1 fun x M2=>DE K ty ρ M2 fun y M3=>∃(a:Addr) (ts:List (Str×PyData)) (k:Str) (d:PyData),z = .d d/\x = .loc a/\y = .d (.str k)/\M3 a=some (.d (B0 ts))/\ts.length < sizeLine/\D.nx ρ (M3.put a (.d (B0 (YK ts k d))))):DSt K (jS td ty tv) ρ M D:=fun σ H E R k1 k2 k3 k4=>
 h σ H _ R fun v H1 z M1 o1 s1 t1 h1=>h1 σ H1 _ (R.step o1 t1) fun u H2 x M2 o2 s2 t2 h2=>h2 σ H2 _ (R.step o2 (t1.trans t2)) fun yv H3 y M3 o3 s3 t3 h3=>by
   obtain⟨a,ts,k,d,rfl,rfl,rfl,m,hl,q⟩:=h3
   unfold SI at s2
   subst s2
   rw[BA s3]
   obtain⟨ks,e1,e2⟩:=o3 a _ m
   have hd:DV K H3 M3.W d v:=DV.grow (t2.trans t3).grow s1
   obtain⟨o4,t4⟩:=D7 o3 m (dY (k:=k) e2 hd)
   have hlen:ks.length < sizeLine:=by rw[MW e2];unfold B0;rw[zX];exact hl
   have ta:=((t1.trans t2).trans t3).trans t4
   exact⟨a,_,rfl,.inl ⟨ks,a1Z k,e1,rfl,hlen,rfl⟩,k1 ρ _ σ _ (R.step o4 ta) ta q⟩
theorem e7 (h:DE K td ρ M fun x M1=>DE K ty ρ M1 fun y M2=>∃(a:Addr) (ts:List (Str×PyData)) (k:Str),x = .loc a/\y = .d (.str k)/\M2 a=some (.d (B0 ts))/\(B1 ts k).isSome=true/\D.nx ρ (M2.put a (.d (B0 (UU ts k))))):DSt K (t8 td ty) ρ M D:=fun σ H E R k1 k2 k3 k4=>
 h σ H _ R fun v H1 x M1 o1 s1 t1 h1=>h1 σ H1 _ (R.step o1 t1) fun u H2 y M2 o2 s2 t2 h2=>by
   obtain⟨a,ts,k,rfl,rfl,m,l,q⟩:=h2
   unfold SI at s1
   subst s1
   rw[BA s2]
   obtain⟨ks,e1,e2⟩:=o2 a _ m
   obtain⟨o4,t4⟩:=D7 o2 m (RW (k:=k) e2)
   have ta:=(t1.trans t2).trans t4
   refine⟨a,ks,a1Z k,rfl,e1,rfl,?_,k1 ρ _ σ _ (R.step o4 ta) ta q⟩
   rcases HJ (k:=k) e2 with ⟨d',w',a1,a2,a3⟩ | ⟨a1,a2⟩
   · rw[a2];rfl
   · rw[a1] at l;cases l
theorem qT (h:DE K td ρ M fun x M1=>∃(a:Addr) (ts0:List (Str×PyData)),x = .loc a/\M1 a=some (.d (B0 ts0))/\DE K ty ρ M1 fun y M2=>∃(ts:List (Str×PyData)) (k:Str) (d:PyData),y = .d (.str k)/\M2 a=some (.d (B0 ts))/\B1 ts k=some d/\Q (.d d) (M2.put a (.d (B0 (UU ts k))))):DE K (jV td ty) ρ M Q:=fun σ H QQ R kk=>
 h σ H _ R fun v H1 x M1 o1 s1 t1 h1=>by
   obtain⟨a,ts0,rfl,m0,h1⟩:=h1
   unfold SI at s1
   subst s1
   obtain⟨ks0,e0,_⟩:=o1 a _ m0
   refine⟨a,rfl,.inl ⟨ks0,.inl e0⟩,h1 σ H1 _ (R.step o1 t1) fun u H2 y M2 o2 s2 t2 h2=>?_⟩
   obtain⟨ts,k,d,rfl,m,l,q⟩:=h2
   rw[BA s2]
   obtain⟨ks,e1,e2⟩:=o2 a _ m
   rcases HJ (k:=k) e2 with ⟨d',w',a1,a2,a3⟩ | ⟨a1,a2⟩
   · rw[l] at a1
     cases a1
     obtain⟨o4,t4⟩:=D7 o2 m (RW (k:=k) e2)
     exact⟨ks,a1Z k,w',e1,rfl,a2,kk _ _ (.d d) _ o4 (DV.grow t4.grow a3) ((t1.trans t2).trans t4) q⟩
   · rw[l] at a1;cases a1
theorem lN {a:Addr}{ts:List (Str×PyData)}(m:M a=some (.d (B0 ts))) (h64:ts.length < 64) (q:∀ss:List Str,ss.Perm (ts.map (·.1))->xG ss=true->Q (.d (.list (ss.map .str))) M):DR K (OJ K) [.loc a] M Q:=fun H vs QQ oa s k=>by
 obtain⟨v,r,rfl,h1,h2⟩:=s
 cases h2
 unfold SI at h1
 subst h1
 obtain⟨ks,e1,e2⟩:=oa a _ m
 refine .inr (.inr ⟨a,ks,ts.map (·.1),rfl,.inl e1,YL e2,by rw[zX];exact h64,fun ss' p h3 h4 hp=>?_⟩)
 have g:Grow K M.W M.W H (upd H p (.lst (ss'.map V.str))):=AW _ hp
 refine k _ _ (.d (.list (ss'.map .str))) M (oa.new hp) ?_ ⟨g⟩ (q ss' h3 h4)
 unfold SI DV
 exact⟨p,_,rfl,.inl ⟨fun w=>w (oa.none hp),.inl AK⟩,P5⟩
def OK (t:Str×List PyData):PyData:=.tuple (.str t.1::t.2)
theorem YN {W:Addr->Prop}:∀{ts:List (Str×List PyData)}{vs:List V},DVs K H W (ts.map OK) vs->∃es:List (Addr×Str×List V),vs=es.map (fun e=>V.ref e.1)/\es.map (fun e=>e.2.1)=ts.map (·.1)/\(∀e∈es,SqT K H e.1 (.str e.2.1::e.2.2)) /\
   es.length=ts.length/\∀(i:Nat) e t,es[i]?=some e->ts[i]?=some t->DV K H W (OK t) (.ref e.1)/\e.2.1=t.1
 | [],vs,h=>by unfold DVs at h;subst h;exact⟨[],rfl,rfl,(fun e he=>by simp at he),rfl,fun i e t h1 h2=>by simp at h1⟩
 | t::ts,vs,h=>by
   rw[zI] at h
   unfold DVs at h
   obtain⟨v,r,rfl,h1,h2⟩:=h
   obtain⟨es,rfl,e2,e3,e4,e5⟩:=YN h2
   have h1':=h1
   unfold OK DV at h1'
   obtain⟨a,us,rfl,hw,hd⟩:=h1'
   unfold DVs at hd
   obtain⟨u,us',rfl,hu,hus⟩:=hd
   unfold DV at hu
   subst hu
   refine⟨(a,t.1,us')::es,rfl,by simp[e2],fun e he=>?_,by simp[e4],fun i e t' h3 h4=>?_⟩
   · rcases yX.mp he with rfl | he
     · exact hw.sq
     · exact e3 e he
   · cases i with
     | zero=>simp at h3 h4;subst h3 h4;exact⟨h1,rfl⟩
     | succ i=>exact e5 i e t' (by simpa using h3) (by simpa using h4)
theorem YO {W:Addr->Prop}:∀{es:List (Addr×Str×List V)}{ts:List (Str×List PyData)},es.length=ts.length->(∀(i:Nat) e t,es[i]?=some e->ts[i]?=some t->DV K H W (OK t) (.ref e.1))->DVs K H W (ts.map OK) (es.map fun e=>V.ref e.1)
 | [],[],_,_=>by simp only[a4J];exact DVs.nil
 | [],_::_,h,_=>by simp at h
 | _::_,[],h,_=>by simp at h
 | e::es,t::ts,h,k=>by
   rw[zI,zI]
   exact DVs.cons (k 0 e t rfl rfl) (YO (by simpa using h) fun i e t h1 h2=>k (i+1) e t (by simpa using h1) (by simpa using h2))
theorem bO {α β:Type}:∀{as as':List α},as'.Perm as->∀{bs:List β},as.length=bs.length->∃bs':List β,bs'.Perm bs/\(as'.zip bs').Perm (as.zip bs)/\as'.length=bs'.length:=by
 intro as as' h
 induction h with
 | nil=>intro bs hl;exact⟨bs,.refl _,.refl _,hl⟩
 | cons x _ ih=>
   intro bs hl
   cases bs with
   | nil=>simp at hl
   | cons b bs=>
     obtain⟨bs',h1,h2,h3⟩:=ih (bs:=bs) (by simpa using hl)
     exact⟨b::bs',h1.cons b,by rw[a7K,a7K];exact h2.cons _,by simp[h3]⟩
 | swap x y l=>
   intro bs hl
   match bs,hl with
   | b1::b2::bs,hl=>exact⟨b2::b1::bs,.swap _ _ _,by simp only[a7K];exact .swap _ _ _,by simpa using hl⟩
 | trans p1 p2 ih1 ih2=>
   intro bs hl
   obtain⟨b2,h1,h2,h3⟩:=ih2 hl
   obtain⟨b3,g1,g2,g3⟩:=ih1 h3
   exact⟨b3,g1.trans h1,g2.trans h2,g3⟩
theorem RX {a:Addr}{ts:List (Str×List PyData)}{vs:List V}{QQ:VK}(oa:OA K H M) (hl:SqL K H a vs∨SqT K H a vs) (hd:DVs K H M.W (ts.map OK) vs) (nd:(ts.map (·.1)).Nodup) (h64:ts.length < 64)
   (k:∀(w:V) (H':Hp) (z:DS) (M':Own),OA K H' M'->SI K H' M' z w->Step K M M' H H'->(∃ts':List (Str×List PyData),ts'.Perm ts/\ts'.Pairwise (fun x y=>x.1.cps.toList < y.1.cps.toList)/\z = .d (.list (ts'.map OK))/\M'=M)->QQ w H'):OJ K [.ref a] H QQ:=by
 obtain⟨es,rfl,e2,e3,e4,e5⟩:=YN hd
 refine .inr (.inl ⟨a,es,rfl,hl,e3,by rw[e2];exact nd,by rw[e4];exact h64,fun es' p hp hs hn=>?_⟩)
 obtain⟨ts',p1,p2,p3⟩:=bO hp e4
 have each:∀(i:Nat) e t,es'[i]?=some e->ts'[i]?=some t->DV K H M.W (OK t) (.ref e.1)/\e.2.1=t.1:=fun i e t h1 h2=>by
   have hz:(e,t)∈es.zip ts:=p2.mem_iff.mp (yN (i:=i) (by rw[a8Z];exact⟨h1,h2⟩))
   obtain⟨j,hj⟩:=b5Z hz
   rw[a8Z] at hj
   exact e5 j e t hj.1 hj.2
 have g:Grow K M.W M.W H (upd H p (.lst (es'.map fun e=>V.ref e.1))):=AW _ hn
 refine k _ _ (.d (.list (ts'.map OK))) M (oa.new hn) ?_ ⟨g⟩ ⟨ts',p1,?_,rfl,rfl⟩
 · unfold SI DV
   exact⟨p,_,rfl,.inl ⟨fun w=>w (oa.none hn),.inl AK⟩,(YO p3 fun i e t h1 h2=>(each i e t h1 h2).1).grow g⟩
 · rw[b8K] at hs ⊢
   intro i j hi hj hij
   have hi':i < es'.length:=by omega
   have hj':j < es'.length:=by omega
   have:=hs i j hi' hj' hij
   rw[(each i es'[i] ts'[i] (zV hi') (zV hi)).2,(each j es'[j] ts'[j] (zV hj') (zV hj)).2] at this
   exact this
theorem lO {ts:List (Str×List PyData)}(nd:(ts.map (·.1)).Nodup) (h64:ts.length < 64) (q:∀ts':List (Str×List PyData),ts'.Perm ts->ts'.Pairwise (fun x y=>x.1.cps.toList < y.1.cps.toList)->Q (.d (.list (ts'.map OK))) M):DR K (OJ K) [.d (.list (ts.map OK))] M Q:=fun H vs QQ oa s k=>by
 obtain⟨v,r,rfl,h1,h2⟩:=s
 cases h2
 unfold SI DV at h1
 obtain⟨a,vs,rfl,hl,hd⟩:=h1
 exact RX oa (.inl hl.sq) hd nd h64 fun w H' z M' o si st ⟨ts',p1,p2,e1,e2⟩=>by subst e1 e2;exact k w H' _ _ o si st (q ts' p1 p2)
end
end DL
namespace DL
open PySem PySem.Spec L2
section
variable {X:Cx}{K:Frg}
theorem wL (h:X.K=K) (hc:X.calm=true):BO X (.builtin "sorted") (OJ K):=h▸RU hc
end
section
variable {K:Frg}{M:Own}{ρ:List (Option DS)}{wi:TI}{g:TG}{H:Hp}
theorem lP {ts:List (Str×PyData)}{k:Str}{d:PyData}(h:k∉ts.map (·.1)):YK ts k d=ts++[(k,d)]:=by
 unfold YK
 rw[if_neg]
 intro e
 obtain⟨t,ht,e⟩:=List.any_eq_true.mp e
 exact h (zL.mpr ⟨t,ht,by simpa using e⟩)
theorem YQ {fr:List (Option Nat)}{tt:TT}{tk tv:TE}{T:List Nat}{Q:DS->Own->Prop}(ho:RE g T) (hT:∀i∈T,∀j,fr[i]?≠some (some j))
   (h:DI K wi ρ M fun ds M1=>ds.length < sizeLine/\∃(c:PyData->Bool) (f:PyData->Str) (w:PyData->PyData),((ds.filter c).map f).Nodup /\
     (∀d∈ds,∀M',DG K g d (L7 fr ρ) M' fun ρ2 M2=>M2=M'/\DT K tt ρ2 M2 fun b M3=>M3=M'/\b=c d/\(c d=true->DE K tk ρ2 M3 fun y M4=>y = .d (.str (f d))/\M4=M'/\DE K tv ρ2 M4 fun z M5=>z = .d (w d)/\M5=M')) /\
     ∀p,M1 p=none->Q (.loc p) (M1.put p (.d (B0 ((ds.filter c).map fun d=>(f d,w d)))))) :
   DE K (W8 fr wi g tt tk tv) ρ M Q:=fun σ H QQ R k=>
 h σ H _ R fun J ds H1 M1 o1 t1 wd ⟨hsz,c,f,w,nd,he,hq⟩=>by
   intro A hA
   obtain⟨oA,sA⟩:=RF (kvs:=[]) (ks:=[]) o1 hA (by unfold DKV;rfl)
   have hM:=o1.none hA
   let acc:Nat->List (Str×PyData):=fun i=>((ds.take i).filter c).map fun d=>(f d,w d)
   refine⟨fun i m ys H2=>m=ds.length - i/\i<=ds.length/\H2 A=some (.dK ys)/\OA K H2 (M1.put A (.d (B0 (acc i))))/\Step K M1 (M1.put A (.d (B0 (acc i)))) H1 H2,⟨_,rfl,xT _,AK,oA,sA⟩,?_⟩
   rintro i m ys H2 ⟨rfl,hi,hys,oa,st⟩
   refine⟨hys,?_⟩
   by_cases hlt:i < ds.length
   · refine .inr ⟨wd.go i H2 _ hlt oa st,fun x H3 y=>?_⟩
     obtain⟨oa3,st3,d,e1,e2⟩:=wd.yld i H2 _ x H3 oa st hlt y
     have Rc:Rel K (M1.put A (.d (B0 (acc i)))) (L7 fr ρ) (L2.capt fr σ) H3:=((R.step o1 t1).step oa3 (st.trans st3)).capt
     have ts:(ds.take (i+1)).filter c=(ds.take i).filter c++(if c d then [d] else []):=take_succ_filter c ds i d e1
     refine ho _ _ _ _ (he d (yN e1) _ (L2.capt fr σ) H3 x _ Rc e2 fun ρ3 M3 σ3 H4 R3 st4 ⟨eM,b3⟩ hext=>⟨fun i' v' hv'=>?_,?_⟩)
     · obtain⟨j,f1,f2⟩:=KI hv'
       rw[hext i' fun hm=>hT i' hm j f1]
       exact hv'
     · subst eM
       refine b3 σ3 H4 _ R3 fun b H5 M5 o5 st5 ⟨eM5,eb,h5⟩=>?_
       subst eM5
       have sx:=((st.trans st3).trans st4).trans st5
       cases hb:c d with
       | false=>
         rw[hb] at eb
         subst eb
         rw[if_neg nft]
         obtain⟨ks,q1,q2⟩:=o5 A _ zU
         have ea:acc (i+1)=acc i:=by show(((ds.take (i+1)).filter c).map _)=_;rw[ts,hb];simp[acc]
         refine⟨ks,ds.length - (i+1),by omega,rfl,hlt,q1,?_,?_⟩
         · rw[ea];exact o5
         · rw[ea];exact sx
       | true=>
         rw[hb] at eb
         subst eb
         rw[if_pos rfl]
         refine h5 hb σ3 H5 _ (R3.step o5 st5) fun y H6 z M6 o6 s6 st6 ⟨ez,eM6,h6⟩=>?_
         subst ez eM6
         refine h6 σ3 H6 _ ((R3.step o5 st5).step o6 st6) fun y2 H7 z2 M7 o7 s7 st7 ⟨ez2,eM7⟩=>?_
         subst ez2 eM7
         obtain⟨ks,q1,q2⟩:=o7 A _ zU
         obtain⟨w1,w2⟩:=D7 o7 zU (dY (k:=f d) q2 s7)
         have hnew:f d∉(acc i).map (·.1):=by
           intro hm
           have:((ds.take (i+1)).filter c).map f=(acc i).map (·.1)++[f d]:=by rw[ts,hb];simp[acc]
           have nd2:(((ds.take (i+1)).filter c).map f).Nodup:=by
             refine nd.sublist ?_
             exact((List.take_sublist _ _).filter _).map _
           rw[this,b9J] at nd2
           exact nd2.2.2 _ hm _ (by simp) rfl
         have ea:acc (i+1)=YK (acc i) (f d) (w d):=by
           rw[lP hnew]
           show(((ds.take (i+1)).filter c).map _)=_
           rw[ts,hb]
           simp[acc]
         have hlen:ks.length < sizeLine:=by
           rw[MW q2]
           unfold B0
           rw[zX]
           refine zQ ?_ hsz
           show(((ds.take i).filter c).map _).length<=_
           rw[zX]
           exact zN (yJ _ _) (by rw[a0J];omega)
         rw[yI] at w1 w2
         refine⟨ks,a1Z (f d),BA s6,q1,hlen,ds.length - (i+1),by omega,rfl,hlt,AK,?_,?_⟩
         · rw[ea];exact w1
         · rw[ea];exact((sx.trans st6).trans st7).trans w2
   · have e:i=ds.length:=by omega
     subst e
     refine .inl ⟨wd.stop H2 _ oa st,k _ H2 (.loc A) _ oa rfl (t1.trans st) ?_⟩
     have:=hq A hM
     have ea:acc ds.length=(ds.filter c).map fun d=>(f d,w d):=by show(((ds.take ds.length).filter c).map _)=_;rw[a5K]
     rw[ea]
     exact this
theorem lQ {D:EndsD}{i j:Nat}{ta:TA}(h:DA K ta ρ M fun xs M1=>∃x y,xs=[x,y]/\D.nx ((ρ.set i (some x)).set j (some y)) M1):DSt K (yE i j ta) ρ M D:=fun σ H E R k1 _ _ _=>
 h σ H _ R fun vs H1 xs M1 o1 s1 t1 h1=>by
   obtain⟨x,y,rfl,q⟩:=h1
   obtain⟨v,r,rfl,sx,s2⟩:=s1
   obtain⟨w,r',rfl,sy,s3⟩:=s2
   cases s3
   exact⟨v,w,rfl,k1 _ M1 _ H1 (((R.step o1 t1).set sx i).set sy j) t1 q⟩
end
end DL
namespace DL
open PySem PySem.Spec L2
inductive Deed where
 | put (x:Str) (p k:Int) | take (x:Str) | move (x:Str) (p:Int) | count (x:Str) (k:Int) | name (x y:Str) | split (x y:Str) (p k:Int) | join (x y:Str)
def Deed.d:Deed->PyData
 | .put x p k=>.tuple [.str (a0Q "put"),.str x,.int p,.int k]
 | .take x=>.tuple [.str (a0Q "take"),.str x]
 | .move x p=>.tuple [.str (a0Q "move"),.str x,.int p]
 | .count x k=>.tuple [.str (a0Q "count"),.str x,.int k]
 | .name x y=>.tuple [.str (a0Q "name"),.str x,.str y]
 | .split x y p k=>.tuple [.str (a0Q "split"),.str x,.str y,.int p,.int k]
 | .join x y=>.tuple [.str (a0Q "join"),.str x,.str y]
def Deed.names:Deed->List Str
 | .put x _ _=>[x] | .take x=>[x] | .move x _=>[x] | .count x _=>[x] | .name x y=>[x,y] | .split x y _ _=>[x,y] | .join x y=>[x,y]
def Deed.ok (D:Deed):Prop:=∀x∈D.names,AH x
def HK:List (Str×Str):=[("put", "npk"),("take", "n"),("move", "np"),("count", "nk"),("name", "nn"),("split", "nnpk"),("join", "nn")]
def RY:PyData->PyData | .str z=>gN (HK.lookup z) | _=>.none
def YR (z:Str):Bool:=z == "name" || z == "split" || z == "join"
def OL:PyData->PyData | .tuple (.str w::r)=>.tuple (r.take (if YR w then 2 else 1)) | d=>d
theorem lR {w f:Str}(h:HK.lookup w=some f):(w = "put" /\ f = "npk")∨(w = "take" /\ f = "n")∨(w = "move" /\ f = "np")∨(w = "count" /\ f = "nk")∨(w = "name" /\ f = "nn")∨(w = "split" /\ f = "nnpk")∨(w = "join" /\ f = "nn"):=by
 unfold HK at h
 simp only[a2J,List.lookup_nil] at h
 split at h
 · rename_i e;exact .inl ⟨eq_of_beq e,by injection h with h;exact h.symm⟩
 split at h
 · rename_i e;exact .inr (.inl ⟨eq_of_beq e,by injection h with h;exact h.symm⟩)
 split at h
 · rename_i e;exact .inr (.inr (.inl ⟨eq_of_beq e,by injection h with h;exact h.symm⟩))
 split at h
 · rename_i e;exact .inr (.inr (.inr (.inl ⟨eq_of_beq e,by injection h with h;exact h.symm⟩)))
 split at h
 · rename_i e;exact .inr (.inr (.inr (.inr (.inl ⟨eq_of_beq e,by injection h with h;exact h.symm⟩))))
 split at h
 · rename_i e;exact .inr (.inr (.inr (.inr (.inr (.inl ⟨eq_of_beq e,by injection h with h;exact h.symm⟩)))))
 split at h
 · rename_i e;exact .inr (.inr (.inr (.inr (.inr (.inr ⟨eq_of_beq e,by injection h with h;exact h.symm⟩)))))
 cases h
theorem RZ {w f:Str}(h:HK.lookup w=some f):f.cps.all (· < 128)=true/\f.cps.size<=4/\Txt.startswith f (a0Q "nn")=YR w/\(YR w=true->2<=f.cps.size/\f.cps[0]?=some 110/\f.cps[1]?=some 110)/\1<=f.cps.size:=by
 rcases lR h with ⟨rfl,rfl⟩ | ⟨rfl,rfl⟩ | ⟨rfl,rfl⟩ | ⟨rfl,rfl⟩ | ⟨rfl,rfl⟩ | ⟨rfl,rfl⟩ | ⟨rfl,rfl⟩ <;> decide +kernel
def lS (d:PyData):Prop:=∃w f r,d = .tuple (.str w::r)/\HK.lookup w=some f
theorem YS (D:Deed):lS D.d:=by cases D <;> exact⟨_,_,_,rfl,rfl⟩
theorem S0 (D:Deed):OL D.d = .tuple (D.names.map .str):=by cases D <;> rfl
def nmS:PyData->List Str | .tuple ds=>ds.map RL | _=>[]
def bP (d:PyData):List Str:=nmS (OL d)
theorem YT (D:Deed):bP D.d=D.names:=by
 unfold bP
 rw[S0]
 show(D.names.map a0K).map RL=_
 rw[zD]
 exact a9Z _
def S3 (d:PyData):Prop:=∃D:Deed,d=D.d/\D.ok
def KL:FSp:=fn1 (fun _=>True) RY
def G1:FSp:=fn1 lS OL
def DN (o:MO):Prop:=∃v:Int,o = .l [.int v]
def C6:FSp:=⟨fun xs M=>∃c:Int,xs=[.d (.int c)]/\xJ c<=2 ^ 21,fun xs M y M'=>M'=M/\∃v:Int,y = .d (.int v)⟩
def BE:FSp:=⟨fun xs M=>∃p size o,xs=[.loc p,.d (.int size)]/\M p=some o/\DN o/\0 < size/\size < 1073741824,
 fun xs M y M'=>∀p size,xs=[.loc p,.d (.int size)]->∃v o,y = .d (.int v)/\0<=v/\v < size/\DN o/\M'=M.put p o⟩
theorem BF {p:Addr}{size:Int}{o:MO}{M:Own}{Q:DS->Own->Prop}(m:M p=some o) (ho:DN o) (h0:0 < size) (h1:size < 1073741824) (q:∀v o',0<=v->v < size->DN o'->Q (.d (.int v)) (M.put p o')) :
   [DS.loc p,.d (.int size)].length=2/\BE.pre [.loc p,.d (.int size)] M/\∀x M',BE.post [.loc p,.d (.int size)] M x M'->Q x M':=
 ⟨rfl,⟨p,size,o,rfl,m,ho,h0,h1⟩,fun x M' h=>by obtain⟨v,o',rfl,h2,h3,h4,rfl⟩:=h p size rfl;exact q v o' h2 h3 h4⟩
def Q7:List Str:=["take", "name", "join"]
theorem OM {z:Str}(h:z∈Q7):z.cps.toList=[116,97,107,101]∨z.cps.toList=[110,97,109,101]∨z.cps.toList=[106,111,105,110]:=by
 simp only[Q7,yX,xX,or_false] at h
 rcases h with rfl | rfl | rfl
 · exact .inl (by decide +kernel)
 · exact .inr (.inl (by decide +kernel))
 · exact .inr (.inr (by decide +kernel))
def nxL (a:Nat):Nat:=if a=122 then 97 else a+1
def Run (l:List Nat):Prop:=∀i a b,l[i]?=some a->l[i+1]?=some b->b=nxL a
theorem Run.drop {l:List Nat}(h:Run l) (n:Nat):Run (l.drop n):=fun i a b h1 h2=>by
 rw[List.getElem?_drop] at h1 h2
 exact h (n+i) a b h1 (by rw[← Nat.add_assoc] at h2;exact h2)
theorem Run.take {l:List Nat}(h:Run l) (n:Nat):Run (l.take n):=fun i a b h1 h2=>by
 rw[List.getElem?_take] at h1 h2
 split at h1
 · split at h2
   · exact h i a b h1 h2
   · cases h2
 · cases h1
theorem qU {z:Str}{n c:Nat}(h:z.cps.toList=a5Z n c):z∉Q7:=fun hb=>by
 have key:∀a∈z.cps.toList,a=c:=fun a ha=>by rw[h] at ha;exact b9V ha
 rcases OM hb with e | e | e
 · rw[e] at key
   have h1:=key 116 (by simp);have h2:=key 97 (by simp);omega
 · rw[e] at key
   have h1:=key 110 (by simp);have h2:=key 97 (by simp);omega
 · rw[e] at key
   have h1:=key 106 (by simp);have h2:=key 111 (by simp);omega
theorem qV {z:Str}{c:Nat}{m:List Nat}(h:z.cps.toList=c::m) (hr:Run m):z∉Q7:=fun hb=>by
 rcases OM hb with e | e | e
 · rw[e] at h;injection h with _ h;subst h
   exact absurd (hr 0 97 107 rfl rfl) (by decide)
 · rw[e] at h;injection h with _ h;subst h
   exact absurd (hr 0 97 109 rfl rfl) (by decide)
 · rw[e] at h;injection h with _ h;subst h
   exact absurd (hr 0 111 105 rfl rfl) (by decide)
theorem qW {z:Str}{c:Nat}{m:List Nat}(h:z.cps.toList=m++[c]) (hr:Run m):z∉Q7:=fun hb=>by
 have hm:m=z.cps.toList.dropLast:=by rw[h];simp
 rcases OM hb with e | e | e
 · rw[e] at hm;subst hm
   exact absurd (hr 0 116 97 rfl rfl) (by decide)
 · rw[e] at hm;subst hm
   exact absurd (hr 0 110 97 rfl rfl) (by decide)
 · rw[e] at hm;subst hm
   exact absurd (hr 0 106 111 rfl rfl) (by decide)
def A0a (l:List Nat):Bool:=(a1Q l.length).all fun i=>match l[i]?,l[i+1]? with | some a,some b=>b==nxL a | _,_=>true
theorem wM {l:List Nat}(h:A0a l=true):Run l:=fun i a b h1 h2=>by
 have hi:i < l.length:=(yT.mp h1).1
 have:=List.all_eq_true.mp h i (List.mem_range.mpr hi)
 rw[h1,h2] at this
 exact eq_of_beq this
theorem lT:∀t,t < 26->A0a ((a0Q "abcdefghijklmnopqrstuvwxyz").cps.toList.drop t++(a0Q "abcdefghijklmnopqrstuvwxyz").cps.toList.take t)=true:=by decide +kernel
def DO:FSp:=⟨fun xs M=>∃p n o,xs=[.loc p,.d (.int n)]/\M p=some o/\DN o/\0<=n/\n<=26,
 fun xs M y M'=>∀p n,xs=[.loc p,.d (.int n)]->∃(ys:List Str) (o:MO),y = .d (.list (ys.map .str))/\(ys.length:Int)=n/\(∀z∈ys,AH z)/\(∀z∈ys,z∉Q7)/\ys.Nodup/\DN o/\M'=M.put p o⟩
theorem bQ {p:Addr}{n:Int}{o:MO}{M:Own}{Q:DS->Own->Prop}(m:M p=some o) (ho:DN o) (h0:0<=n) (h1:n<=26) (q:∀(ys:List Str) o',(ys.length:Int)=n->(∀z∈ys,AH z)->(∀z∈ys,z∉Q7)->ys.Nodup->DN o'->Q (.d (.list (ys.map .str))) (M.put p o')) :
   [DS.loc p,.d (.int n)].length=2/\DO.pre [.loc p,.d (.int n)] M/\∀x M',DO.post [.loc p,.d (.int n)] M x M'->Q x M':=
 ⟨rfl,⟨p,n,o,rfl,m,ho,h0,h1⟩,fun x M' h=>by obtain⟨v,o',rfl,h2,h3,h4,h5,h6,rfl⟩:=h p n rfl;exact q v o' h2 h3 h4 h5 h6⟩
theorem MA {c:Int}{M:Own}{Q:DS->Own->Prop}(h:xJ c<=2 ^ 21) (q:∀v:Int,Q (.d (.int v)) M):[DS.d (.int c)].length=1/\C6.pre [.d (.int c)] M/\∀x M',C6.post [.d (.int c)] M x M'->Q x M':=
 ⟨rfl,⟨c,rfl,h⟩,fun x M' h=>by obtain⟨rfl,v,rfl⟩:=h;exact q v⟩
theorem AJ {z:Str}(h:AH z):zH (.str z)=true:=FQ (FY h) (by simp[b1J])
def Deed.word:Deed->Str
 | .put .. => "put" | .take .. => "take" | .move .. => "move" | .count .. => "count" | .name .. => "name" | .split .. => "split" | .join .. => "join"
def Deed.fst:Deed->Str
 | .put x _ _=>x | .take x=>x | .move x _=>x | .count x _=>x | .name x _=>x | .split x _ _ _=>x | .join x _=>x
def Deed.rest:Deed->List PyData
 | .put _ p k=>[.int p,.int k] | .take _=>[] | .move _ p=>[.int p] | .count _ k=>[.int k] | .name _ y=>[.str y] | .split _ y p k=>[.str y,.int p,.int k] | .join _ y=>[.str y]
theorem Deed.d_eq (D:Deed):D.d = .tuple (.str D.word::.str D.fst::D.rest):=by cases D <;> rfl
theorem Deed.word_ok (D:Deed):zH (.str D.word)=true:=by cases D <;> (simp only[Deed.word];decide +kernel)
theorem C7 (a b:Str):a0X (.str a) (.str b)=(a==b):=by simp[a0X]
theorem JW {ss:List Str}(h:∀s∈ss,b7X s=true):zH (.list (ss.map .str))=true:=by
 refine FQ (bB fun d hd=>?_) ?_
 · obtain⟨y,h1,rfl⟩:=zL.mp hd
   exact h y h1
 · have:a6J (ss.map a0K)<=0:=bC fun d hd=>by
     obtain⟨y,h1,rfl⟩:=zL.mp hd
     exact zR 0
   simp only[b1J];omega
theorem QS {ys:List Str}{v:Int}(h0:0<=v) (h1:v < ys.length):∃y,atI (ys.map a0K) v=some (.str y)/\y∈ys:=by
 obtain⟨n,rfl⟩:∃n:Nat,v=(n:Int):=⟨v.toNat,by omega⟩
 have hn:n < ys.length:=by omega
 exact⟨ys[n],AC (by rw[zF,zV hn];rfl),b1K hn⟩
def nmA (R:Str):PyData->PyData
 | .int i=>match atI R.cps.toList (i/8) with | some c=>.str (Q6 ⟨#[c]⟩ (1+i % 8)) | none=>.none
 | d=>d
def nmB (R t:Str):PyData->PyData
 | .int i=>match atI R.cps.toList i with | some c=>.str (⟨#[c]⟩++t) | none=>.none
 | d=>d
def nmC (R t:Str):PyData->PyData
 | .int i=>match atI R.cps.toList i with | some c=>.str (t++⟨#[c]⟩) | none=>.none
 | d=>d
theorem W9 {R:Str}{i:Int}{c:Nat}(h:atI R.cps.toList (i/8)=some c):nmA R (.int i) = .str (Q6 ⟨#[c]⟩ (1+i % 8)):=by simp only[nmA,h]
theorem WA {R t:Str}{i:Int}{c:Nat}(h:atI R.cps.toList i=some c):nmB R t (.int i) = .str (⟨#[c]⟩++t):=by simp only[nmB,h]
theorem WB {R t:Str}{i:Int}{c:Nat}(h:atI R.cps.toList i=some c):nmC R t (.int i) = .str (t++⟨#[c]⟩):=by simp only[nmC,h]
def YU:FSp:=⟨fun xs M=>∃ns:List Int,xs=[.d (.list (ns.map .int))]/\ns.length<=63/\∀i∈ns,xJ i<=2 ^ 20,fun xs M y M'=>y = .d (.bool true)⟩
theorem S4 {R:List Nat}(h:R.Nodup) {i j:Nat}{c:Nat}(h1:atI R (i:Int)=some c) (h2:atI R (j:Int)=some c) (hi:i < R.length) (hj:j < R.length):i=j:=by
 have e1:atI R (i:Int)=some R[i]:=AC (zV hi)
 have e2:atI R (j:Int)=some R[j]:=AC (zV hj)
 rw[e1] at h1
 rw[e2] at h2
 have:R[i]=R[j]:=by rw[Option.some.inj h1,Option.some.inj h2]
 exact(List.getElem_inj h).mp this
theorem nodup_range {N:Nat}{f:Nat->Str}(h:∀i j,i < N->j < N->f i=f j->i=j):((a1Q N).map f).Nodup:=by
 unfold List.Nodup
 rw[a3V]
 exact(List.nodup_range (n:=N)).imp_of_mem fun {a b} ha hb hab e=>hab (h a b (List.mem_range.mp ha) (List.mem_range.mp hb) e)
theorem hW (t:Nat):((a0Q "abcdefghijklmnopqrstuvwxyz").cps.toList.drop t++(a0Q "abcdefghijklmnopqrstuvwxyz").cps.toList.take t).Nodup:=by
 have h:((a0Q "abcdefghijklmnopqrstuvwxyz").cps.toList.drop t++(a0Q "abcdefghijklmnopqrstuvwxyz").cps.toList.take t).Perm (a0Q "abcdefghijklmnopqrstuvwxyz").cps.toList:=by
   refine List.perm_append_comm.trans ?_
   rw[List.take_append_drop]
 exact h.nodup_iff.mpr bD
theorem lU {c d:Nat}{t:Str}(h:(⟨#[c]⟩:Str)++t=⟨#[d]⟩++t):c=d:=by
 have:=congrArg (fun s:Str=>s.cps.toList) h
 simp only[AT] at this
 have:=List.append_cancel_right this
 simpa using this
theorem lV {c d:Nat}{t:Str}(h:t++(⟨#[c]⟩:Str)=t++⟨#[d]⟩):c=d:=by
 have:=congrArg (fun s:Str=>s.cps.toList) h
 simp only[AT] at this
 have:=List.append_cancel_left this
 simpa using this
theorem qX {c d:Nat}{m n:Int}(hm:1<=m) (hn:1<=n) (h:Q6 ⟨#[c]⟩ m=Q6 ⟨#[d]⟩ n):c=d/\m=n:=by
 have:=congrArg (fun s:Str=>s.cps.toList) h
 simp only[W6 hm,W6 hn] at this
 have hl:=congrArg b2X this
 rw[b0J,b0J] at hl
 have hmn:m=n:=by omega
 refine⟨?_,hmn⟩
 subst hmn
 have hc:c∈a5Z m.toNat d:=by rw[← this];exact List.mem_replicate.mpr ⟨by omega,rfl⟩
 exact b9V hc
end DL
namespace DL
open PySem PySem.Spec L2
def MY:PyData->PyData->Bool
 | .str s,p=>if s == "n" then CZ p else if s == "p" then LY p else OG p
 | _,p=>OG p
def bR:FSp:=fn2 (fun a b=>∃c:Nat,a = .str ⟨#[c]⟩/\c < 128/\okD b) fun a b=>.bool (MY a b)
def IL (f:Str) (r:List PyData):Bool:=((CB f).zip r).all fun p=>MY p.1 p.2
def B5:List PyData->Bool
 | .str w::r=>match HK.lookup w with
   | some f=>(r.length==f.cps.size)&&IL f r&&(!YR w||!a0X (r.getD 0 .none) (r.getD 1 .none))
   | none=>false
 | _=>false
def e8:PyData->Bool | .tuple ds=>B5 ds | _=>false
def okP:PyData->Prop | .tuple ds=>ds.length<=5000/\∀d∈ds,okD d | _=>True
def HL:FSp:=fn1 okP fun d=>.bool (e8 d)
def A0b:PyData->PyData | .tuple [a,b]=>.bool (MY a b) | d=>d
theorem lW (f:Str) (r:List PyData):((Y1 (CB f) r).filter fun _=>true).map A0b=(((CB f).zip r).map fun p=>MY p.1 p.2).map .bool:=by
 rw[flt]
 unfold Y1
 rw[zD,zD];rfl
theorem lX {f:Str}{a b:PyData}{r:List PyData}(h0:f.cps[0]?=some 110) (h1:f.cps[1]?=some 110) (h:IL f (a::b::r)=true):CZ a=true/\CZ b=true:=by
 unfold IL at h
 rw[b1W] at h
 have e0:((CB f).zip (a::b::r))[0]?=some (.str ⟨#[110]⟩,a):=by
   rw[a8Z]
   exact⟨by unfold CB;rw[zF];simp[h0],rfl⟩
 have e1:((CB f).zip (a::b::r))[1]?=some (.str ⟨#[110]⟩,b):=by
   rw[a8Z]
   exact⟨by unfold CB;rw[zF];simp[h1],rfl⟩
 have q:∀d,MY (.str ⟨#[110]⟩) d=CZ d:=fun d=>rfl
 exact⟨by rw[← q];exact h _ (yN e0),by rw[← q];exact h _ (yN e1)⟩
def GJ:PyData->PyData
 | .tuple (.str w::r)=>if w == "put" then r.getD 0 .none else if w == "name" || w == "split" then r.getD 1 .none else .none
 | _=>.none
def lY:PyData->PyData
 | .tuple (.str w::r)=>if w == "take" || w == "name" then r.getD 0 .none else if w == "join" then r.getD 1 .none else .none
 | _=>.none
def FR:FSp:=fn1 S3 GJ
def MB:FSp:=fn1 S3 lY
def YV (d:PyData):List Str:=(bP d).filter fun n=>!a0X (.str n) (GJ d)
def FH:FSp:=fn1 S3 fun d=>.tuple ((YV d).map .str)
def Deed.isPut:Deed->Bool | .put ..=>true | _=>false
def Deed.isNS:Deed->Bool | .name ..=>true | .split ..=>true | _=>false
def Deed.isTN:Deed->Bool | .take ..=>true | .name ..=>true | _=>false
def Deed.isJoin:Deed->Bool | .join ..=>true | _=>false
theorem lZ (D:Deed):(D.word==a0Q "put")=D.isPut:=by cases D <;> (simp only[Deed.word,Deed.isPut];decide +kernel)
theorem hX (D:Deed):(D.word==a0Q "join")=D.isJoin:=by cases D <;> (simp only[Deed.word,Deed.isJoin];decide +kernel)
theorem A0c (w a b:Str):decide (w∈[a,b])=(w==a||w==b):=by rw[a3Z];simp
theorem qY (D:Deed):(D.word==a0Q "name" || D.word==a0Q "split")=D.isNS:=by cases D <;> (simp only[Deed.word,Deed.isNS];decide +kernel)
theorem qZ (D:Deed):(D.word==a0Q "take" || D.word==a0Q "name")=D.isTN:=by cases D <;> (simp only[Deed.word,Deed.isTN];decide +kernel)
theorem e9 {D:Deed}(h:D.ok):zH (GJ D.d)=true:=by
 cases D with
 | put x p k=>exact AJ (h x (by simp[Deed.names]))
 | name x y=>exact AJ (h y (by simp[Deed.names]))
 | split x y p k=>exact AJ (h y (by simp[Deed.names]))
 | _=>rfl
end DL
namespace DL
open PySem PySem.Spec L2
def pcD (p c:Int):PyData:=.tuple [.int p,.int c]
def tsD (ts:List Th):List (Str×PyData):=ts.map fun t=>(t.1,pcD t.2.1 t.2.2)
def KZ (ts:List Th) (k:Str) (p c:Int):List Th:=if (ts.any fun t=>decide (t.1=k))=true then ts.map (fun t=>if t.1=k then (t.1,p,c) else t) else ts++[(k,p,c)]
def JX (ts:List Th) (k:Str):List Th:=ts.filter fun t=>decide (t.1≠k)
def AE:List Th->Str->Option (Int×Int)
 | [],_=>none
 | t::r,k=>if t.1=k then some t.2 else AE r k
theorem MZ (ts:List Th) (k:Str) (p c:Int):YK (tsD ts) k (pcD p c)=tsD (KZ ts k p c):=by
 unfold YK KZ tsD
 have e:((ts.map fun t=>(t.1,pcD t.2.1 t.2.2)).any fun t=>decide (t.1=k))=ts.any fun t=>decide (t.1=k):=by rw[List.any_map];rfl
 rw[e]
 split
 · rw[zD,zD]
   apply yM
   intro t _
   show(if t.1=k then (t.1,pcD p c) else _)=_
   simp only[Function.comp]
   split <;> rfl
 · simp
theorem S5 (ts:List Th) (k:Str):UU (tsD ts) k=tsD (JX ts k):=by
 unfold UU JX tsD
 rw[xU];rfl
theorem CD (k:Str):∀ts:List Th,B1 (tsD ts) k=(AE ts k).map fun v=>pcD v.1 v.2
 | []=>rfl
 | t::r=>by
   have ih:=CD k r
   unfold tsD at ih ⊢
   simp only[zI,B1,AE]
   split
   · rfl
   · exact ih
theorem EA {k:Str}:∀{ts:List Th}{v:Int×Int},AE ts k=some v->(k,v)∈ts
 | t::r,v,h=>by
   unfold AE at h
   split at h
   · rename_i e;cases h;subst e;exact a1W
   · exact yV _ (EA h)
theorem G2 {k:Str}:∀{ts:List Th},AE ts k=none↔k∉ts.map (·.1)
 | []=>by simp[AE]
 | t::r=>by
   unfold AE
   rw[zI,yX]
   split
   · rename_i e;simp[e]
   · rename_i e
     rw[G2]
     constructor
     · intro h q;rcases q with q | q;exact e q.symm;exact h q
     · intro h q;exact h (.inr q)
theorem IM {k:Str}{ts:List Th}:(AE ts k).isSome=decide (k∈ts.map (·.1)):=by
 cases h:AE ts k with
 | none=>rw[decide_eq_false (G2.mp h)];rfl
 | some v=>rw[decide_eq_true (zL.mpr ⟨_,EA h,rfl⟩)];rfl
theorem FI {t:Th}:∀{ts:List Th},(ts.map (·.1)).Nodup->t∈ts->AE ts t.1=some t.2
 | u::r,nd,h=>by
   unfold AE
   rcases yX.mp h with rfl | h
   · rw[if_pos rfl]
   · rw[zI,xV] at nd
     rw[if_neg fun e=>nd.1 (by rw[e];exact zL.mpr ⟨t,h,rfl⟩)]
     exact FI nd.2 h
def bS (t:Th):List Th->List Th
 | []=>[t]
 | u::r=>if sl t.1 u.1=true then t::u::r else u::bS t r
def BG:List Th->List Th
 | []=>[]
 | t::r=>bS t (BG r)
theorem OO (t:Th):∀ts:List Th,(bS t ts).Perm (t::ts)
 | []=>.refl _
 | u::r=>by
   unfold bS
   split
   · exact .refl _
   · exact((OO t r).cons u).trans (.swap _ _ _)
theorem CK:∀ts:List Th,(BG ts).Perm ts
 | []=>.refl _
 | t::r=>(OO t _).trans ((CK r).cons t)
theorem YW (t:Th):∀{ts:List Th},Ris (ts.map (·.1))->t.1∉ts.map (·.1)->Ris ((bS t ts).map (·.1))
 | [],_,_=>by simp[bS,Ris]
 | u::r,h,hn=>by
   unfold bS
   unfold Ris at h
   rw[zI,a7W] at h
   rw[zI,yX] at hn
   split
   · rename_i e
     unfold Ris
     rw[zI,zI,a7W,a7W]
     refine⟨fun x hx=>?_,h⟩
     rcases yX.mp hx with rfl | hx
     · exact e
     · exact RI e (h.1 x hx)
   · rename_i e
     have e':sl t.1 u.1=false:=by simpa using e
     have hlt:sl u.1 t.1=true:=by
       cases hq:sl u.1 t.1 with
       | true=>rfl
       | false=>exact absurd (RJ e' hq) fun q=>hn (.inl q)
     unfold Ris
     rw[zI,a7W]
     refine⟨fun x hx=>?_,YW t h.2 fun q=>hn (.inr q)⟩
     have:=((OO t r).map (·.1)).mem_iff.mp hx
     rcases yX.mp this with rfl | hx
     · exact hlt
     · exact h.1 x hx
theorem N0:∀{ts:List Th},(ts.map (·.1)).Nodup->Ris ((BG ts).map (·.1))
 | [],_=>List.Pairwise.nil
 | t::r,nd=>by
   rw[zI,xV] at nd
   exact YW t (N0 nd.2) fun q=>nd.1 (((CK r).map (·.1)).mem_iff.mp q)
theorem YX:∀{as bs:List Th},as.Perm bs->Ris (as.map (·.1))->Ris (bs.map (·.1))->as=bs
 | [],bs,p,_,_=>(List.nil_perm.mp p).symm
 | a::as,[],p,_,_=>by have:=p.length_eq;simp at this
 | a::as,b::bs,p,h1,h2=>by
   unfold Ris at h1 h2
   rw[zI,a7W] at h1 h2
   have e:a=b:=by
     rcases yX.mp (p.mem_iff.mp (a1W (a:=a) (l:=as))) with e | e
     · exact e
     · rcases yX.mp (p.mem_iff.mpr (a1W (a:=b) (l:=bs))) with e' | e'
       · exact e'.symm
       · have x1:=h1.1 b.1 (zL.mpr ⟨b,e',rfl⟩)
         have x2:=h2.1 a.1 (zL.mpr ⟨a,e,rfl⟩)
         rw[Y7 x1] at x2;cases x2
   subst e
   rw[YX (List.Perm.cons_inv p) h1.2 h2.2]
theorem UV {as bs:List Th}(p:as.Perm bs) (h:Ris (as.map (·.1))):as=BG bs:=
 YX (p.trans (CK bs).symm) h (N0 ((p.map (·.1)).nodup_iff.mp h.nodup))
theorem i0 {w:List Th}(h:Ris (w.map (·.1))):BG w=w:=(UV (.refl w) h).symm
def L0 (ts:List Th) (x:Str) (k:Int):List Th:=match AE ts x with | some v=>KZ ts x v.1 (v.2+k) | none=>ts
def doT (ts:List Th):Deed->List Th
 | .put x p k=>KZ ts x p k
 | .take x=>JX ts x
 | .move x p=>match AE ts x with | some v=>KZ ts x p v.2 | none=>ts
 | .count x k=>L0 ts x k
 | .name x y=>match AE ts x with | some v=>KZ (JX ts x) y v.1 v.2 | none=>ts
 | .split x y p k=>KZ (L0 ts x (-k)) y p k
 | .join x y=>match AE ts y with | some v=>JX (L0 ts x v.2) y | none=>ts
def Deed.made:Deed->Option Str | .put x _ _=>some x | .name _ y=>some y | .split _ y _ _=>some y | _=>none
def Deed.apart:Deed->Prop | .name x y=>x≠y | .split x y _ _=>x≠y | .join x y=>x≠y | _=>True
def Deed.placed:Deed->Prop | .put _ p _=>0<=p/\p<=999 | .move _ p=>0<=p/\p<=999 | .split _ _ p _=>0<=p/\p<=999 | _=>True
def Deed.real (D:Deed):Prop:=D.ok/\D.apart/\D.placed
theorem D9 {D:Deed}(h:D.real):S3 D.d:=⟨D,rfl,h.1⟩
def BB (ns:List Str) (D:Deed):Option Str:=D.names.find? fun n=>decide (n∈ns)==decide (D.made=some n)
theorem EM {ns:List Str}{D:Deed}(h:BB ns D=none):∀n∈D.names,(n∈ns)↔¬D.made=some n:=fun n hn=>by
 have:=List.find?_eq_none.mp h n hn
 by_cases h1:n∈ns <;> by_cases h2:D.made=some n <;> simp_all
theorem QT (D:Deed):GJ D.d=match D.made with | some x=>.str x | none=>.none:=by cases D <;> rfl
def BY (ts:List Th):Deed->Deed
 | .put x _ _=>.take x
 | .take x=>match AE ts x with | some v=>.put x v.1 v.2 | none=>.take x
 | .move x p=>match AE ts x with | some v=>.move x v.1 | none=>.move x p
 | .count x k=>.count x (-k)
 | .name x y=>.name y x
 | .split x y _ _=>.join x y
 | .join x y=>match AE ts y with | some v=>.split x y v.1 v.2 | none=>.join x y
abbrev tsO (ts:List Th):MO:=.d (B0 (tsD ts))
def UW (ts:List Th):Prop:=(ts.map (·.1)).Nodup/\ts.length < 63
def D8:FSp:=⟨fun xs M=>∃w:List Th,xs=[.d (wD w)]/\UW w,fun xs M y M'=>∀w:List Th,xs=[.d (wD w)]->∃p,M p=none/\y = .loc p/\M'=M.put p (tsO w)⟩
def B7:FSp:=⟨fun xs M=>∃(p:Addr) (ts:List Th),xs=[.loc p]/\M p=some (tsO ts)/\(ts.map (·.1)).Nodup/\ts.length < 64,fun xs M y M'=>∀(p:Addr) (ts:List Th),xs=[.loc p]->M p=some (tsO ts)->(ts.map (·.1)).Nodup->y = .d (wD (BG ts))/\M'=M⟩
def B8:FSp:=⟨fun xs M=>∃(p:Addr) (ts:List Th) (D:Deed),xs=[.loc p,.d D.d]/\M p=some (tsO ts)/\D.real/\BB (ts.map (·.1)) D=none,fun xs M y M'=>y = .d .none/\M'=M⟩
def EN:FSp:=⟨fun xs M=>∃(p:Addr) (ts:List Th) (x:Str) (k:Int) (v:Int×Int),xs=[.loc p,.d (.str x),.d (.int k)]/\M p=some (tsO ts)/\AE ts x=some v/\ts.length < 64,
 fun xs M y M'=>∀(p:Addr) (ts:List Th) (x:Str) (k:Int),xs=[.loc p,.d (.str x),.d (.int k)]->M p=some (tsO ts)->y = .d .none/\M'=M.put p (tsO (L0 ts x k))⟩
def JY:FSp:=⟨fun xs M=>∃(p:Addr) (ts:List Th) (D:Deed),xs=[.loc p,.d D.d]/\M p=some (tsO ts)/\UW ts/\D.real/\BB (ts.map (·.1)) D=none,
 fun xs M y M'=>∀(p:Addr) (ts:List Th) (D:Deed),xs=[.loc p,.d D.d]->M p=some (tsO ts)->y = .d .none/\M'=M.put p (tsO (doT ts D))⟩
def goD (w:List Th) (D:Deed):Prop:=UW w/\D.real/\BB (w.map (·.1)) D=none
def OP:FSp:=⟨fun xs M=>∃(w:List Th) (D:Deed),xs=[.d (wD w),.d D.d]/\goD w D,fun xs M y M'=>∀(w:List Th) (D:Deed),xs=[.d (wD w),.d D.d]->y = .d (wD (BG (doT w D)))/\M'=M⟩
def EO:FSp:=⟨fun xs M=>∃(w:List Th) (D:Deed),xs=[.d (wD w),.d D.d]/\goD w D,fun xs M y M'=>∀(w:List Th) (D:Deed),xs=[.d (wD w),.d D.d]->y = .d (BY w D).d/\M'=M⟩
theorem r6 {t u:Th}(h:thD t=thD u):t=u:=by
 obtain⟨a,b,c⟩:=t
 obtain⟨a',b',c'⟩:=u
 simp only[thD,PyData.tuple.injEq,List.cons.injEq,PyData.str.injEq,PyData.int.injEq,and_true] at h
 obtain⟨rfl,rfl,rfl⟩:=h
 rfl
theorem P7:∀{v w:List Th},v.map thD=w.map thD->v=w
 | [],[],_=>rfl
 | [],_::_,h=>by simp at h
 | _::_,[],h=>by simp at h
 | a::v,b::w,h=>by
   rw[zI,zI,List.cons.injEq] at h
   rw[r6 h.1,P7 h.2]
theorem S6 {v w:List Th}(h:wD v=wD w):v=w:=P7 (by unfold wD at h;exact PyData.tuple.inj h)
theorem D4 {D E:Deed}(h:D.d=E.d):D=E:=by
 cases D <;> cases E <;> simp only[Deed.d,PyData.tuple.injEq,List.cons.injEq,PyData.str.injEq,PyData.int.injEq,and_true,true_and,reduceCtorEq,and_false,false_and,List.nil_eq] at h <;>
   first
   | (obtain⟨_,h⟩:=h;first | (obtain⟨rfl,rfl,rfl,rfl⟩:=h;rfl) | (obtain⟨rfl,rfl,rfl⟩:=h;rfl) | (obtain⟨rfl,rfl⟩:=h;rfl) | (subst h;rfl))
   | (obtain⟨rfl,rfl,rfl,rfl⟩:=h;rfl) | (obtain⟨rfl,rfl,rfl⟩:=h;rfl) | (obtain⟨rfl,rfl⟩:=h;rfl) | (subst h;rfl)
   | exact absurd h.1 (by decide +kernel)
theorem wN {a b c d:Int}(h:pcD a b=pcD c d):a=c/\b=d:=by
 simp only[pcD,PyData.tuple.injEq,List.cons.injEq,PyData.int.injEq,and_true] at h;exact h
theorem WC:∀{ts us:List Th},tsO ts=tsO us->ts=us:=by
 intro ts us h
 have h:B0 (tsD ts)=B0 (tsD us):=by injection h
 unfold B0 tsD at h
 rw[zD,zD] at h
 have go:∀(ts us:List Th),ts.map ((fun t:Str×PyData=>(a0K t.1,t.2))∘fun t:Th=>(t.1,pcD t.2.1 t.2.2))=us.map ((fun t:Str×PyData=>(a0K t.1,t.2))∘fun t:Th=>(t.1,pcD t.2.1 t.2.2))->ts=us:=by
   intro ts
   induction ts with
   | nil=>intro us h;cases us with | nil=>rfl | cons _ _=>simp at h
   | cons t ts ih=>
     intro us h
     cases us with
     | nil=>simp at h
     | cons u us=>
       rw[zI,zI,List.cons.injEq] at h
       obtain⟨h1,h2⟩:=h
       simp only[Function.comp,Prod.mk.injEq,PyData.str.injEq] at h1
       obtain⟨e1,e2⟩:=h1
       obtain⟨e3,e4⟩:=wN e2
       rw[ih us h2]
       obtain⟨a,b,c⟩:=t
       obtain⟨a',b',c'⟩:=u
       simp only at e1 e3 e4
       rw[e1,e3,e4]
 exact go ts us h
section
variable {M:Own}{Q:DS->Own->Prop}
theorem HB {w:List Th}(h:UW w) (q:∀p,M p=none->Q (.loc p) (M.put p (tsO w))):[DS.d (wD w)].length=1/\D8.pre [.d (wD w)] M/\∀x M',D8.post [.d (wD w)] M x M'->Q x M':=
 ⟨rfl,⟨w,rfl,h⟩,fun x M' h=>by obtain⟨p,h1,rfl,rfl⟩:=h w rfl;exact q p h1⟩
theorem P8 {p:Addr}{ts:List Th}(m:M p=some (tsO ts)) (nd:(ts.map (·.1)).Nodup) (hl:ts.length < 64) (q:Q (.d (wD (BG ts))) M):[DS.loc p].length=1/\B7.pre [.loc p] M/\∀x M',B7.post [.loc p] M x M'->Q x M':=
 ⟨rfl,⟨p,ts,rfl,m,nd,hl⟩,fun x M' h=>by obtain⟨rfl,rfl⟩:=h p ts rfl m nd;exact q⟩
theorem P9 {p:Addr}{ts:List Th}{D:Deed}(m:M p=some (tsO ts)) (hr:D.real) (ha:BB (ts.map (·.1)) D=none) (q:Q (.d .none) M):[DS.loc p,.d D.d].length=2/\B8.pre [.loc p,.d D.d] M/\∀x M',B8.post [.loc p,.d D.d] M x M'->Q x M':=
 ⟨rfl,⟨p,ts,D,rfl,m,hr,ha⟩,fun x M' h=>by obtain⟨rfl,rfl⟩:=h;exact q⟩
theorem S7 {p:Addr}{ts:List Th}{x:Str}{k:Int}{v:Int×Int}(m:M p=some (tsO ts)) (hl:AE ts x=some v) (hz:ts.length < 64) (q:Q (.d .none) (M.put p (tsO (L0 ts x k)))):[DS.loc p,.d (.str x),.d (.int k)].length=3/\EN.pre [.loc p,.d (.str x),.d (.int k)] M/\∀x' M',EN.post [.loc p,.d (.str x),.d (.int k)] M x' M'->Q x' M':=
 ⟨rfl,⟨p,ts,x,k,v,rfl,m,hl,hz⟩,fun x' M' h=>by obtain⟨rfl,rfl⟩:=h p ts x k rfl m;exact q⟩
theorem YY {p:Addr}{ts:List Th}{D:Deed}(m:M p=some (tsO ts)) (hc:UW ts) (hr:D.real) (ha:BB (ts.map (·.1)) D=none) (q:Q (.d .none) (M.put p (tsO (doT ts D)))):[DS.loc p,.d D.d].length=2/\JY.pre [.loc p,.d D.d] M/\∀x M',JY.post [.loc p,.d D.d] M x M'->Q x M':=
 ⟨rfl,⟨p,ts,D,rfl,m,hc,hr,ha⟩,fun x M' h=>by obtain⟨rfl,rfl⟩:=h p ts D rfl m;exact q⟩
theorem UX {w:List Th}{D:Deed}(h:goD w D) (q:Q (.d (wD (BG (doT w D)))) M):[DS.d (wD w),.d D.d].length=2/\OP.pre [.d (wD w),.d D.d] M/\∀x M',OP.post [.d (wD w),.d D.d] M x M'->Q x M':=
 ⟨rfl,⟨w,D,rfl,h⟩,fun x M' h=>by obtain⟨rfl,rfl⟩:=h w D rfl;exact q⟩
theorem i4 {w:List Th}{D:Deed}(h:goD w D) (q:Q (.d (BY w D).d) M):[DS.d (wD w),.d D.d].length=2/\EO.pre [.d (wD w),.d D.d] M/\∀x M',EO.post [.d (wD w),.d D.d] M x M'->Q x M':=
 ⟨rfl,⟨w,D,rfl,h⟩,fun x M' h=>by obtain⟨rfl,rfl⟩:=h w D rfl;exact q⟩
end
end DL
namespace DL
open PySem PySem.Spec L2
theorem N1 (ds:List PyData):(ds.filter fun _=>true)=ds:=List.filter_eq_self.mpr (by simp)
def A02:PyData->PyData | .tuple [_,p,c]=>.tuple [p,c] | d=>d
theorem UY:∀{as bs:List Str},as.Perm bs->Ris as->Ris bs->as=bs
 | [],bs,p,_,_=>(List.nil_perm.mp p).symm
 | a::as,[],p,_,_=>by have:=p.length_eq;simp at this
 | a::as,b::bs,p,h1,h2=>by
   unfold Ris at h1 h2
   rw[a7W] at h1 h2
   have e:a=b:=by
     rcases yX.mp (p.mem_iff.mp (a1W (a:=a) (l:=as))) with e | e
     · exact e
     · rcases yX.mp (p.mem_iff.mpr (a1W (a:=b) (l:=bs))) with e' | e'
       · exact e'.symm
       · have x1:=h1.1 b e'
         have x2:=h2.1 a e;rw[Y7 x1] at x2;cases x2
   subst e
   rw[UY (List.Perm.cons_inv p) h1.2 h2.2]
def eB (ts:List Th):PyData->PyData
 | .str s=>match AE ts s with | some v=>.tuple [.str s,.int v.1,.int v.2] | none=>.none
 | d=>d
theorem i5 {ts:List Th}{ss:List Str}(nd:(ts.map (·.1)).Nodup) (p:ss.Perm (ts.map (·.1))) (h:xG ss=true):(ss.map a0K).map (eB ts)=(BG ts).map thD:=by
 have nd2:ss.Nodup:=p.nodup_iff.mpr nd
 have e:ss=(BG ts).map (·.1):=UY (p.trans ((CK ts).map (·.1)).symm) (bA h nd2) (N0 nd)
 rw[e,zD,zD]
 apply yM
 intro t ht
 have:=FI nd ((CK ts).mem_iff.mp ht)
 simp only[Function.comp,eB,this]
 rfl
def wT (s:String):PyData:=.str (a0Q s)
theorem wO (a b c:PyData):B5 [wT "put", a,b,c]=(CZ a&&(LY b&&(OG c&&true))&&true):=rfl
theorem r8 (a:PyData):B5 [wT "take", a]=(CZ a&&true&&true):=rfl
theorem r9 (a b:PyData):B5 [wT "move", a,b]=(CZ a&&(LY b&&true)&&true):=rfl
theorem m3 (a b:PyData):B5 [wT "count", a,b]=(CZ a&&(OG b&&true)&&true):=rfl
theorem rA (a b:PyData):B5 [wT "name", a,b]=(CZ a&&(CZ b&&true)&&(!a0X a b)):=rfl
theorem rB (a b:PyData):B5 [wT "join", a,b]=(CZ a&&(CZ b&&true)&&(!a0X a b)):=rfl
theorem m4 (a b c d:PyData):B5 [wT "split", a,b,c,d]=(CZ a&&(CZ b&&(LY c&&(OG d&&true)))&&(!a0X a b)):=rfl
theorem eF {D:Deed}(h:D.real):e8 D.d=true:=by
 obtain⟨h1,nd,pl⟩:=h
 have nm:∀x∈D.names,CZ (.str x)=true:=fun x hx=>Y8 (h1 x hx)
 have ne:∀x y:Str,x≠y->a0X (.str x) (.str y)=false:=fun x y hn=>by simp[a0X,hn]
 have pp:∀p:Int,0<=p/\p<=999->LY (.int p)=true:=fun p hp=>by
   show(decide (0<=p)&&decide (p<=999))=true
   rw[decide_eq_true hp.1,decide_eq_true hp.2];rfl
 cases D with
 | put x p k=>show B5 [wT "put", .str x,.int p,.int k]=true;rw[wO,nm x (by simp[Deed.names]),pp p pl];rfl
 | take x=>show B5 [wT "take", .str x]=true;rw[r8,nm x (by simp[Deed.names])];rfl
 | move x p=>show B5 [wT "move", .str x,.int p]=true;rw[r9,nm x (by simp[Deed.names]),pp p pl];rfl
 | count x k=>show B5 [wT "count", .str x,.int k]=true;rw[m3,nm x (by simp[Deed.names])];rfl
 | name x y=>show B5 [wT "name", .str x,.str y]=true;rw[rA,nm x (by simp[Deed.names]),nm y (by simp[Deed.names]),ne x y nd];rfl
 | split x y p k=>show B5 [wT "split", .str x,.str y,.int p,.int k]=true;rw[m4,nm x (by simp[Deed.names]),nm y (by simp[Deed.names]),ne x y nd,pp p pl];rfl
 | join x y=>show B5 [wT "join", .str x,.str y]=true;rw[rB,nm x (by simp[Deed.names]),nm y (by simp[Deed.names]),ne x y nd];rfl
theorem eG {D:Deed}(h:D.ok):okP D.d:=by
 have wk:∀s:Str,(decide (s.cps.size<=5000)&&s.cps.toList.all (fun c=>decide (c < 128)))=true->okD (.str s):=fun s h=>by
   simp only[a0W,decide_eq_true_eq,b1W] at h
   exact h
 have nk:∀x∈D.names,okD (.str x):=fun x hx=>Y4 (h x hx)
 cases D <;> (refine⟨by simp,?_⟩;simp only[List.forall_mem_cons])
 · exact⟨wk _ (by decide +kernel),nk _ (by simp[Deed.names]),trivial,trivial,by simp⟩
 · exact⟨wk _ (by decide +kernel),nk _ (by simp[Deed.names]),by simp⟩
 · exact⟨wk _ (by decide +kernel),nk _ (by simp[Deed.names]),trivial,by simp⟩
 · exact⟨wk _ (by decide +kernel),nk _ (by simp[Deed.names]),trivial,by simp⟩
 · exact⟨wk _ (by decide +kernel),nk _ (by simp[Deed.names]),nk _ (by simp[Deed.names]),by simp⟩
 · exact⟨wk _ (by decide +kernel),nk _ (by simp[Deed.names]),nk _ (by simp[Deed.names]),trivial,trivial,by simp⟩
 · exact⟨wk _ (by decide +kernel),nk _ (by simp[Deed.names]),nk _ (by simp[Deed.names]),by simp⟩
theorem rC (D:Deed) (n:Str):a0X (.str n) (GJ D.d)=decide (D.made=some n):=by
 rw[QT]
 cases h:D.made with
 | none=>simp[a0X]
 | some x=>simp only[a0X,Option.some.injEq];rw[a3Z];simp;exact eq_comm
theorem i6 (a b:Bool):a0X (.bool a) (.bool b)=(a==b):=by cases a <;> cases b <;> rfl
theorem YZ {ts:List Th}{x:Str}{p c:Int}(h:x∈ts.map (·.1)):KZ ts x p c=ts.map fun t=>if t.1=x then (t.1,p,c) else t:=by
 unfold KZ
 obtain⟨t,ht,e⟩:=zL.mp h
 rw[if_pos (List.any_eq_true.mpr ⟨t,ht,by simpa using e⟩)]
theorem N2 {ts:List Th}{x:Str}{p c:Int}(h:x∉ts.map (·.1)):KZ ts x p c=ts++[(x,p,c)]:=by
 unfold KZ
 rw[if_neg]
 intro e
 obtain⟨t,ht,e⟩:=List.any_eq_true.mp e
 exact h (zL.mpr ⟨t,ht,by simpa using e⟩)
theorem S8 {ts:List Th}{x:Str}{p c:Int}(h:x∈ts.map (·.1)):(KZ ts x p c).map (·.1)=ts.map (·.1):=by
 rw[YZ h,zD]
 apply yM
 intro t _
 simp only[Function.comp]
 split <;> rfl
theorem BK {ts:List Th}{x:Str}(h:x∈ts.map (·.1)):∃v,AE ts x=some v:=by
 cases e:AE ts x with
 | none=>exact absurd h (G2.mp e)
 | some v=>exact⟨v,rfl⟩
theorem eI {ts:List Th}{x:Str}{v:Int×Int}(h:AE ts x=some v):x∈ts.map (·.1):=zL.mpr ⟨_,EA h,rfl⟩
theorem EB {ts:List Th}{x:Str}{k:Int}:(L0 ts x k).map (·.1)=ts.map (·.1):=by
 unfold L0
 cases e:AE ts x with
 | none=>rfl
 | some v=>exact S8 (eI e)
theorem m5 {ts:List Th}{x:Str}{k:Int}:(L0 ts x k).length=ts.length:=by
 have:=congrArg b2X (EB (ts:=ts) (x:=x) (k:=k))
 simpa using this
theorem IN {M:Own}{p p':Addr}{ts ts':List Th}{D D':Deed}(m:M p=some (tsO ts)) (e:[DS.loc p,.d D.d]=[.loc p',.d D'.d]) (m':M p'=some (tsO ts')):p=p'/\ts=ts'/\D=D':=by
 simp only[List.cons.injEq,DS.loc.injEq,DS.d.injEq,and_true] at e
 obtain⟨rfl,e⟩:=e
 exact⟨rfl,WC (Option.some.inj (m.symm.trans m')),D4 e⟩
theorem JZ {w w':List Th}{D D':Deed}(e:[DS.d (wD w),.d D.d]=[.d (wD w'),.d D'.d]):w=w'/\D=D':=by
 simp only[List.cons.injEq,DS.d.injEq,and_true] at e
 exact⟨S6 e.1,D4 e.2⟩
theorem QU {ts:List Th}(h:ts.length < 64):(tsD ts).length < sizeLine:=by unfold tsD;rw[zX];exact zP h (by decide)
theorem GK (ts:List Th) (x:Str):(JX ts x).map (·.1)=(ts.map (·.1)).filter fun n=>decide (n≠x):=by
 unfold JX
 rw[xU];rfl
def B4 (ns:List Str):Deed->List Str
 | .put x _ _=>ns++[x]
 | .take x=>ns.filter fun n=>decide (n≠x)
 | .move _ _=>ns
 | .count _ _=>ns
 | .name x y=>(ns.filter fun n=>decide (n≠x))++[y]
 | .split _ y _ _=>ns++[y]
 | .join _ y=>ns.filter fun n=>decide (n≠y)
theorem J1 {ns:List Str}{D:Deed}(ha:BB ns D=none) {n:Str}(hn:n∈D.names) (hm:D.made≠some n):n∈ns:=(EM ha n hn).mpr hm
theorem MC {ns:List Str}{D:Deed}(ha:BB ns D=none) {n:Str}(hn:n∈D.names) (hm:D.made=some n):n∉ns:=fun q=>(EM ha n hn).mp q hm
theorem OQ {ts:List Th}{D:Deed}(hr:D.real) (ha:BB (ts.map (·.1)) D=none):(doT ts D).map (·.1)=B4 (ts.map (·.1)) D:=by
 cases D with
 | put x p k=>
   show(KZ ts x p k).map (·.1)=_
   rw[N2 (MC ha (by simp[Deed.names]) rfl),xI];rfl
 | take x=>exact GK ts x
 | move x p=>
   obtain⟨v,hv⟩:=BK (J1 ha (n:=x) (by simp[Deed.names]) (by simp[Deed.made]))
   simp only[doT,hv]
   exact S8 (eI hv)
 | count x k=>exact EB
 | name x y=>
   obtain⟨v,hv⟩:=BK (J1 ha (n:=x) (by simp[Deed.names]) (by simp[Deed.made];exact fun e=>hr.2.1 e.symm))
   simp only[doT,hv]
   have hy:y∉(JX ts x).map (·.1):=by
     rw[GK]
     intro q
     exact MC ha (n:=y) (by simp[Deed.names]) rfl (yL.mp q).1
   rw[N2 hy,xI,GK];rfl
 | split x y p k=>
   show(KZ (L0 ts x (-k)) y p k).map (·.1)=_
   have hy:y∉(L0 ts x (-k)).map (·.1):=by
     rw[EB]
     exact MC ha (n:=y) (by simp[Deed.names]) rfl
   rw[N2 hy,xI,EB];rfl
 | join x y=>
   obtain⟨v,hv⟩:=BK (J1 ha (n:=y) (by simp[Deed.names]) (by simp[Deed.made]))
   simp only[doT,hv]
   rw[GK,EB];rfl
theorem WE {ns:List Str}{D:Deed}(nd:ns.Nodup) (ha:BB ns D=none):(B4 ns D).Nodup:=by
 have app:∀{l:List Str}{y:Str},l.Nodup->y∉l->(l++[y]).Nodup:=fun {l y} h1 h2=>by
   rw[b9J]
   exact⟨h1,by simp,fun a ha b hb e=>by simp at hb;subst hb;subst e;exact h2 ha⟩
 cases D with
 | put x p k=>exact app nd (MC ha (by simp[Deed.names]) rfl)
 | take x=>exact nd.sublist a3K
 | move x p=>exact nd
 | count x k=>exact nd
 | name x y=>exact app (nd.sublist a3K) fun q=>MC ha (n:=y) (by simp[Deed.names]) rfl (yL.mp q).1
 | split x y p k=>exact app nd (MC ha (n:=y) (by simp[Deed.names]) rfl)
 | join x y=>exact nd.sublist a3K
theorem S9 (ns:List Str) (D:Deed):(B4 ns D).length<=ns.length+1:=by
 cases D <;> simp only[B4,yY,yR,b2W]
 all_goals first | omega | exact zN (yJ _ _) (b4X _) | exact b1X (yJ _ _) 1
theorem bT {ts:List Th}{D:Deed}(h:goD ts D):((doT ts D).map (·.1)).Nodup/\(doT ts D).length < 64:=by
 obtain⟨⟨nd,hl⟩,hr,ha⟩:=h
 have e:=OQ hr ha
 refine⟨by rw[e];exact WE nd ha,?_⟩
 have h1:=S9 (ts.map (·.1)) D
 have h2:=congrArg b2X e
 simp only[zX] at h1 h2
 omega
end DL
namespace DL
open PySem PySem.Spec L2
theorem K0 (ts:List Th) (x:Str) (p c:Int) (n:Str):AE (KZ ts x p c) n=if n=x then some (p,c) else AE ts n:=by
 by_cases h:x∈ts.map (·.1)
 · rw[YZ h]
   induction ts with
   | nil=>simp at h
   | cons t r ih=>
     rw[zI]
     by_cases e:t.1=x
     · rw[if_pos e]
       unfold AE
       by_cases en:n=x
       · subst en;rw[if_pos e,if_pos rfl]
       · have e1:¬t.1=n:=fun q=>en (q.symm.trans e)
         rw[if_neg e1,if_neg en,if_neg e1]
         by_cases hr:x∈r.map (·.1)
         · rw[ih hr,if_neg en]
         · have hm:(r.map fun t=>if t.1=x then (t.1,p,c) else t)=r:=by
             conv=>rhs;rw[← a9Z r]
             apply yM
             intro u hu
             rw[if_neg fun q=>hr (by rw[← q];exact zL.mpr ⟨u,hu,rfl⟩)];rfl
           rw[hm]
     · rw[if_neg e]
       have hr:x∈r.map (·.1):=by
         rw[zI,yX] at h
         exact h.resolve_left fun q=>e q.symm
       unfold AE
       by_cases e1:t.1=n
       · rw[if_pos e1,if_pos e1,if_neg fun q=>e (e1.trans q)]
       · rw[if_neg e1,if_neg e1,ih hr]
 · rw[N2 h]
   have:∀ts:List Th,x∉ts.map (·.1)->AE (ts++[(x,p,c)]) n=if n=x then some (p,c) else AE ts n:=by
     intro ts
     induction ts with
     | nil=>
       intro _
       show(if x=n then _ else _)=_
       by_cases e:n=x
       · rw[if_pos e,if_pos e.symm]
       · rw[if_neg e,if_neg fun q=>e q.symm]
     | cons t r ih=>
       intro hx
       rw[zI,yX] at hx
       rw[List.cons_append]
       unfold AE
       by_cases e1:t.1=n
       · rw[if_pos e1,if_pos e1,if_neg fun q=>hx (.inl (e1.trans q).symm)]
       · rw[if_neg e1,if_neg e1,ih fun q=>hx (.inr q)]
   exact this ts h
theorem OR (ts:List Th) (x n:Str):AE (JX ts x) n=if n=x then none else AE ts n:=by
 induction ts with
 | nil=>show none=_;split <;> rfl
 | cons t r ih=>
   unfold JX at ih ⊢
   rw[a7X]
   by_cases e:t.1=x
   · rw[if_neg (by simp[e]),ih]
     by_cases en:n=x
     · rw[if_pos en,if_pos en]
     · rw[if_neg en,if_neg en]
       conv=>rhs;unfold AE
       rw[if_neg fun q=>en (q.symm.trans e)]
   · rw[if_pos (by simpa using e)]
     unfold AE
     rw[ih]
     by_cases e1:t.1=n
     · rw[if_pos e1,if_pos e1,if_neg fun q=>e (e1.trans q)]
     · rw[if_neg e1,if_neg e1]
theorem SA (ts:List Th) (x:Str) (k:Int) (n:Str):AE (L0 ts x k) n=if n=x then (AE ts x).map fun v=>(v.1,v.2+k) else AE ts n:=by
 unfold L0
 cases h:AE ts x with
 | none=>
   by_cases e:n=x
   · subst e;rw[if_pos rfl,h];rfl
   · rw[if_neg e]
 | some v=>rw[K0];rfl
theorem N3 {ts:List Th}(nd:(ts.map (·.1)).Nodup) {t:Th}:t∈ts↔AE ts t.1=some t.2:=⟨fun h=>FI nd h,fun h=>EA h⟩
theorem i7 {as bs:List Th}(n1:(as.map (·.1)).Nodup) (p:as.Perm bs) (n:Str):AE as n=AE bs n:=by
 have n2:(bs.map (·.1)).Nodup:=(p.map (·.1)).nodup_iff.mp n1
 cases h:AE as n with
 | none=>
   cases h2:AE bs n with
   | none=>rfl
   | some v=>exact absurd (zL.mpr ⟨_,p.mem_iff.mpr (EA h2),rfl⟩) (G2.mp h)
 | some v=>exact((N3 n2 (t:=(n,v))).mp (p.mem_iff.mp (EA h))).symm
theorem i8 {as bs:List Th}(n1:(as.map (·.1)).Nodup) (n2:(bs.map (·.1)).Nodup) (h:∀n,AE as n=AE bs n):as.Perm bs:=by
 have nd:∀{l:List Th},(l.map (·.1)).Nodup->l.Nodup:=fun {l} h=>by
   unfold List.Nodup at h ⊢
   rw[a3V] at h
   exact h.imp fun {a b} q e=>q (by rw[e])
 rw[b7J (nd n1) (nd n2)]
 intro t
 rw[N3 n1,N3 n2,h]
theorem i9 {ts w:List Th}(nd:(ts.map (·.1)).Nodup) (hw:Ris (w.map (·.1))) (h:∀n,AE ts n=AE w n):BG ts=w:=
 (UV (i8 hw.nodup nd fun n=>(h n).symm) hw).symm
theorem m6 {ts:List Th}(nd:(ts.map (·.1)).Nodup) (n:Str):AE (BG ts) n=AE ts n:=
 i7 (((CK ts).map (·.1)).nodup_iff.mpr nd) (CK ts) n
def DQ (w:List Th):Prop:=Ris (w.map (·.1))/\∀t∈w,AH t.1/\0<=t.2.1/\t.2.1<=999
theorem KM {w:List Th}(h:DQ w) {x:Str}{v:Int×Int}(e:AE w x=some v):AH x/\0<=v.1/\v.1<=999:=h.2 _ (EA e)
theorem FJ {ts:List Th}{D:Deed}(hr:D.real) (ha:BB (ts.map (·.1)) D=none) (n:Str) :
   AE (doT ts D) n=match D with
     | .put x p k=>if n=x then some (p,k) else AE ts n
     | .take x=>if n=x then none else AE ts n
     | .move x p=>if n=x then (AE ts x).map fun v=>(p,v.2) else AE ts n
     | .count x k=>if n=x then (AE ts x).map fun v=>(v.1,v.2+k) else AE ts n
     | .name x y=>if n=y then AE ts x else if n=x then none else AE ts n
     | .split x y p k=>if n=y then some (p,k) else if n=x then (AE ts x).map fun v=>(v.1,v.2 + -k) else AE ts n
     | .join x y=>if n=y then none else if n=x then (AE ts x).bind fun v=>(AE ts y).map fun u=>(v.1,v.2+u.2) else AE ts n:=by
 cases D with
 | put x p k=>exact K0 _ _ _ _ _
 | take x=>exact OR _ _ _
 | move x p=>
   obtain⟨v,hv⟩:=BK (J1 ha (n:=x) (by simp[Deed.names]) (by simp[Deed.made]))
   simp only[doT,hv]
   exact K0 _ _ _ _ _
 | count x k=>exact SA _ _ _ _
 | name x y=>
   obtain⟨v,hv⟩:=BK (J1 ha (n:=x) (by simp[Deed.names]) (by simp[Deed.made];exact fun e=>hr.2.1 e.symm))
   simp only[doT,hv]
   rw[K0,OR]
 | split x y p k=>
   show AE (KZ (L0 ts x (-k)) y p k) n=_
   rw[K0,SA]
 | join x y=>
   obtain⟨v,hv⟩:=BK (J1 ha (n:=x) (by simp[Deed.names]) (by simp[Deed.made]))
   obtain⟨u,hu⟩:=BK (J1 ha (n:=y) (by simp[Deed.names]) (by simp[Deed.made]))
   simp only[doT,hu]
   rw[OR,SA,hv];rfl
theorem bU {w:List Th}{D:Deed}(h:goD w D) {n:Str}(hn:n∈D.names) (hm:D.made≠some n):∃v,AE w n=some v:=BK (J1 h.2.2 hn hm)
theorem wP {w:List Th}{D:Deed}(h:goD w D) {n:Str}(hn:n∈D.names) (hm:D.made=some n):AE w n=none:=G2.mpr (MC h.2.2 hn hm)
theorem DU {ns:List Str}{D:Deed}(h:∀n∈D.names,(n∈ns)↔¬D.made=some n):BB ns D=none:=by
 unfold BB
 rw[List.find?_eq_none]
 intro n hn
 have:=h n hn
 by_cases h1:n∈ns <;> by_cases h2:D.made=some n <;> simp_all
theorem m7 {ts:List Th}{n:Str}:n∈ts.map (·.1)↔(AE ts n).isSome=true:=by rw[IM];simp
theorem m8 {w:List Th}{D:Deed}(hw:DQ w) (hg:goD w D) (hl:w.length < 60) :
   goD (BG (doT w D)) (BY w D)/\BG (doT (BG (doT w D)) (BY w D))=w/\BY (BG (doT w D)) (BY w D)=D/\DQ (BG (doT w D))/\(BG (doT w D)).length<=w.length+1:=by
 have hr:=hg.2.1
 have ha:=hg.2.2
 obtain⟨nd,_⟩:=bT hg
 have L:∀n,AE (BG (doT w D)) n=AE (doT w D) n:=m6 nd
 have ndr:((BG (doT w D)).map (·.1)).Nodup:=((CK _).map (·.1)).nodup_iff.mpr nd
 have hlen:(BG (doT w D)).length<=w.length+1:=by
   rw[(CK _).length_eq]
   have h1:=S9 (w.map (·.1)) D
   have h2:=congrArg b2X (OQ hr ha)
   simp only[zX] at h1 h2
   omega
 have fw:DQ (BG (doT w D)):=by
   refine⟨N0 nd,fun t ht=>?_⟩
   have hk:AE (doT w D) t.1=some t.2:=by rw[← L];exact(N3 ndr).mp ht
   rw[FJ hr ha] at hk
   have old:∀{n:Str}{v:Int×Int},AE w n=some v->AH n/\0<=v.1/\v.1<=999:=fun e=>KM hw e
   cases D with
   | put x p k=>
     dsimp only at hk
     split at hk
     · rename_i e;have hk:=Option.some.inj hk;rw[e,← hk];exact⟨hr.1 x (by simp[Deed.names]),hr.2.2.1,hr.2.2.2⟩
     · exact old hk
   | take x=>
     dsimp only at hk
     split at hk
     · cases hk
     · exact old hk
   | move x p=>
     dsimp only at hk
     split at hk
     · rename_i e
       obtain⟨v,hv,e2⟩:=Option.map_eq_some_iff.mp hk
       rw[e,← e2];exact⟨(old hv).1,hr.2.2.1,hr.2.2.2⟩
     · exact old hk
   | count x k=>
     dsimp only at hk
     split at hk
     · rename_i e
       obtain⟨v,hv,e2⟩:=Option.map_eq_some_iff.mp hk
       rw[e,← e2];exact⟨(old hv).1,(old hv).2⟩
     · exact old hk
   | name x y=>
     dsimp only at hk
     split at hk
     · rename_i e;rw[e];exact⟨hr.1 y (by simp[Deed.names]),(old hk).2⟩
     · split at hk
       · cases hk
       · exact old hk
   | split x y p k=>
     dsimp only at hk
     split at hk
     · rename_i e;have hk:=Option.some.inj hk;rw[e,← hk];exact⟨hr.1 y (by simp[Deed.names]),hr.2.2.1,hr.2.2.2⟩
     · split at hk
       · rename_i e
         obtain⟨v,hv,e2⟩:=Option.map_eq_some_iff.mp hk
         rw[e,← e2];exact⟨(old hv).1,(old hv).2⟩
       · exact old hk
   | join x y=>
     dsimp only at hk
     split at hk
     · cases hk
     · split at hk
       · rename_i e
         obtain⟨v,hv,e2⟩:=Option.bind_eq_some_iff.mp hk
         obtain⟨u,hu,e3⟩:=Option.map_eq_some_iff.mp e2
         rw[e,← e3];exact⟨(old hv).1,(old hv).2⟩
       · exact old hk
 have core:goD (BG (doT w D)) (BY w D)/\(∀n,AE (doT (BG (doT w D)) (BY w D)) n=AE w n)/\BY (BG (doT w D)) (BY w D)=D:=by
   have can:UW (BG (doT w D)):=⟨ndr,by omega⟩
   have LD:∀n,AE (BG (doT w D)) n=_:=fun n=>(L n).trans (FJ hr ha n)
   have mk:∀B:Deed,B.real->(∀n∈B.names,((AE (BG (doT w D)) n).isSome=true)↔¬B.made=some n)->goD (BG (doT w D)) B:=fun B h1 h2=>⟨can,h1,DU fun n hn=>m7.trans (h2 n hn)⟩
   cases D with
   | put x p k=>
     have hx:=wP hg (n:=x) (by simp[Deed.names]) rfl
     have g:goD (BG (doT w (.put x p k))) (.take x):=mk (.take x) ⟨fun n hn=>hr.1 n hn,trivial,trivial⟩ fun n hn=>by
       simp only[Deed.names,a3Q] at hn;subst hn;rw[LD];simp[Deed.made]
     refine⟨g,fun n=>?_,?_⟩
     · show AE (doT (BG (doT w (.put x p k))) (.take x)) n=_
       rw[FJ g.2.1 g.2.2]
       dsimp only
       rw[LD]
       dsimp only
       by_cases e:n=x
       · rw[if_pos e,e,hx]
       · rw[if_neg e,if_neg e]
     · have lx:AE (BG (doT w (.put x p k))) x=some (p,k):=by rw[LD];simp
       simp only[BY,lx]
   | take x=>
     obtain⟨v,hv⟩:=bU hg (n:=x) (by simp[Deed.names]) (by simp[Deed.made])
     have eb:BY w (.take x) = .put x v.1 v.2:=by simp only[BY,hv]
     rw[eb]
     have g:goD (BG (doT w (.take x))) (.put x v.1 v.2):=mk (.put x v.1 v.2) ⟨fun n hn=>hr.1 n hn,trivial,(KM hw hv).2⟩ fun n hn=>by
       simp only[Deed.names,a3Q] at hn;subst hn;rw[LD];simp[Deed.made]
     refine⟨g,fun n=>?_,rfl⟩
     rw[FJ g.2.1 g.2.2]
     dsimp only
     rw[LD]
     dsimp only
     by_cases e:n=x
     · rw[if_pos e,e,hv]
     · rw[if_neg e,if_neg e]
   | move x p=>
     obtain⟨v,hv⟩:=bU hg (n:=x) (by simp[Deed.names]) (by simp[Deed.made])
     have eb:BY w (.move x p) = .move x v.1:=by simp only[BY,hv]
     rw[eb]
     have lx:AE (BG (doT w (.move x p))) x=some (p,v.2):=by rw[LD];simp[hv]
     have g:goD (BG (doT w (.move x p))) (.move x v.1):=mk (.move x v.1) ⟨fun n hn=>hr.1 n hn,trivial,(KM hw hv).2⟩ fun n hn=>by
       simp only[Deed.names,a3Q] at hn;subst hn;rw[lx];simp[Deed.made]
     refine⟨g,fun n=>?_,by simp only[BY,lx]⟩
     rw[FJ g.2.1 g.2.2]
     dsimp only
     rw[lx]
     by_cases e:n=x
     · rw[if_pos e,e,hv];rfl
     · rw[if_neg e,LD]
       dsimp only
       rw[if_neg e]
   | count x k=>
     obtain⟨v,hv⟩:=bU hg (n:=x) (by simp[Deed.names]) (by simp[Deed.made])
     have eb:BY w (.count x k) = .count x (-k):=rfl
     rw[eb]
     have lx:AE (BG (doT w (.count x k))) x=some (v.1,v.2+k):=by rw[LD];simp[hv]
     have g:goD (BG (doT w (.count x k))) (.count x (-k)):=mk (.count x (-k)) ⟨fun n hn=>hr.1 n hn,trivial,trivial⟩ fun n hn=>by
       simp only[Deed.names,a3Q] at hn;subst hn;rw[lx];simp[Deed.made]
     refine⟨g,fun n=>?_,by simp only[BY,Int.neg_neg]⟩
     rw[FJ g.2.1 g.2.2]
     dsimp only
     rw[lx]
     by_cases e:n=x
     · rw[if_pos e,e,hv]
       show some (v.1,v.2+k + -k)=some v
       rw[Int.add_neg_cancel_right]
     · rw[if_neg e,LD]
       dsimp only
       rw[if_neg e]
   | name x y=>
     have hxy:x≠y:=hr.2.1
     obtain⟨v,hv⟩:=bU hg (n:=x) (by simp[Deed.names]) (by simp[Deed.made];exact fun e=>hxy e.symm)
     have hy:=wP hg (n:=y) (by simp[Deed.names]) rfl
     have eb:BY w (.name x y) = .name y x:=rfl
     rw[eb]
     have ly:AE (BG (doT w (.name x y))) y=some v:=by rw[LD];simp[hv]
     have lx:AE (BG (doT w (.name x y))) x=none:=by rw[LD];simp[hxy]
     have g:goD (BG (doT w (.name x y))) (.name y x):=mk (.name y x) ⟨fun n hn=>hr.1 n (by simp[Deed.names] at hn ⊢;exact hn.symm),fun e=>hxy e.symm,trivial⟩ fun n hn=>by
       simp only[Deed.names,yX,xX,or_false] at hn
       rcases hn with rfl | rfl
       · rw[ly];simp[Deed.made];exact hxy
       · rw[lx];simp[Deed.made]
     refine⟨g,fun n=>?_,rfl⟩
     rw[FJ g.2.1 g.2.2]
     dsimp only
     rw[ly]
     by_cases e:n=x
     · rw[if_pos e,e,hv]
     · rw[if_neg e]
       by_cases e2:n=y
       · rw[if_pos e2,e2,hy]
       · rw[if_neg e2,LD]
         dsimp only
         rw[if_neg e2,if_neg e]
   | split x y p k=>
     have hxy:x≠y:=hr.2.1
     obtain⟨v,hv⟩:=bU hg (n:=x) (by simp[Deed.names]) (by simp[Deed.made];exact fun e=>hxy e.symm)
     have hy:=wP hg (n:=y) (by simp[Deed.names]) rfl
     have eb:BY w (.split x y p k) = .join x y:=rfl
     rw[eb]
     have ly:AE (BG (doT w (.split x y p k))) y=some (p,k):=by rw[LD];simp
     have lx:AE (BG (doT w (.split x y p k))) x=some (v.1,v.2 + -k):=by rw[LD];simp[hxy,hv]
     have g:goD (BG (doT w (.split x y p k))) (.join x y):=mk (.join x y) ⟨fun n hn=>hr.1 n hn,hxy,trivial⟩ fun n hn=>by
       simp only[Deed.names,yX,xX,or_false] at hn
       rcases hn with rfl | rfl
       · rw[lx];simp[Deed.made]
       · rw[ly];simp[Deed.made]
     refine⟨g,fun n=>?_,by simp only[BY,ly]⟩
     rw[FJ g.2.1 g.2.2]
     dsimp only
     rw[lx,ly]
     by_cases e:n=y
     · rw[if_pos e,e,hy]
     · rw[if_neg e]
       by_cases e2:n=x
       · rw[if_pos e2,e2,hv]
         show some (v.1,v.2 + -k+k)=some v
         rw[Int.neg_add_cancel_right]
       · rw[if_neg e2,LD]
         dsimp only
         rw[if_neg e,if_neg e2]
   | join x y=>
     have hxy:x≠y:=hr.2.1
     obtain⟨v,hv⟩:=bU hg (n:=x) (by simp[Deed.names]) (by simp[Deed.made])
     obtain⟨u,hu⟩:=bU hg (n:=y) (by simp[Deed.names]) (by simp[Deed.made])
     have eb:BY w (.join x y) = .split x y u.1 u.2:=by simp only[BY,hu]
     rw[eb]
     have ly:AE (BG (doT w (.join x y))) y=none:=by rw[LD];simp
     have lx:AE (BG (doT w (.join x y))) x=some (v.1,v.2+u.2):=by rw[LD];simp[hxy,hv,hu]
     have g:goD (BG (doT w (.join x y))) (.split x y u.1 u.2):=mk (.split x y u.1 u.2) ⟨fun n hn=>hr.1 n hn,hxy,(KM hw hu).2⟩ fun n hn=>by
       simp only[Deed.names,yX,xX,or_false] at hn
       rcases hn with rfl | rfl
       · rw[lx];simp[Deed.made];exact fun e=>hxy e.symm
       · rw[ly];simp[Deed.made]
     refine⟨g,fun n=>?_,rfl⟩
     rw[FJ g.2.1 g.2.2]
     dsimp only
     rw[lx]
     by_cases e:n=y
     · rw[if_pos e,e,hu]
     · rw[if_neg e]
       by_cases e2:n=x
       · rw[if_pos e2,e2,hv]
         show some (v.1,v.2+u.2 + -u.2)=some v
         rw[Int.add_neg_cancel_right]
       · rw[if_neg e2,LD]
         dsimp only
         rw[if_neg e,if_neg e2]
 obtain⟨c1,c2,c3⟩:=core
 exact⟨c1,i9 (bT c1).1 hw.1 c2,c3,fw,hlen⟩
end DL
namespace L2
open PySem PySem.Spec PyProof.Rows
theorem PB (ns:List Int):∀k,k<=ns.length->preSum (fun i=>ns.getD i 0) k=(ns.take k).sum
 | 0,_=>by simp[preSum]
 | k+1,h=>by
   show preSum _ k+ns.getD k 0=_
   have e:ns.take (k+1)=ns.take k++[ns.getD k 0]:=by
     rw[a5Q,yU,zV (by omega)];rfl
   rw[PB ns k (by omega),e,List.sum_append]
   simp
def wQ (K:Frg):List V->Hp->VK->Prop:=fun xs H Q=>∃(p:Addr) (ns:List Int),xs=[.ref p]/\SqL K H p (ns.map V.int)/\Q (.int ns.sum) H
theorem SD:∀{ns:List Int}{its:List Value},Vals (ns.map V.int) its->its.length=ns.length/\∀(i:Nat) v,its[i]?=some v->∃t,v=b5V (ns.getD i 0) t
 | [],_,.nil=>⟨rfl,fun i v h=>by simp at h⟩
 | n::ns,_,.cons r t=>by
   obtain⟨h1,h2⟩:=SD t
   refine⟨by simp[h1],fun i v h=>?_⟩
   cases i with
   | zero=>simp at h;subst h;exact r
   | succ i=>exact h2 i v (by simpa using h)
theorem m9 {X:Cx}(hc:X.calm=true):BO X (.builtin "sum") (wQ X.K):=by
 intro pins s σ H xs us Q I r h
 obtain⟨p,ns,rfl,hp,q⟩:=h
 obtain⟨u,rfl,ru⟩:=F6 r
 cases ru
 obtain⟨its,rv,pl,_⟩:=I.list hp
 obtain⟨hl,hv⟩:=SD rv
 have hlist:=pl.isList
 have hlt:p < s.heap.objs.size:=by obtain⟨_,e,_⟩:=hlist;exact zM e
 refine call_sum_walkAnyS ?_
 refine wpAny_pyIter_list hlist ⟨s.heap.objs.size,_,_,_,its.toArray.size,fun i v=>its.toArray[i]?=some v,_,fun i=>ns.getD i 0,rfl,(Walks.list (A:=X.A.in1) (I.ok.hd hc) _ _ (zC hlt) its.toArray).toS,⟨⟨_,yZ _ rfl,rfl,rfl⟩,hlist.push _⟩,fun b hb=>?_,fun i v e=>hv i v (by simpa using e),fun s' t' hm=>?_⟩
 · show b < (s.heap.push _).objs.size
   rw[a8X]
   rcases yX.mp hb with e | hb
   · rw[e];exact Nat.lt_succ_self _
   · rw[List.mem_singleton.mp hb];exact b0V hlt
 · have hk:∀b o,s.heap.get? b=some o->s'.heap.get? b=some o:=fun b o e=>
     hm.heap b o (fun hI=>absurd (zM e) (by rw[List.mem_singleton.mp hI];exact yF _)) (zW _ e)
   rw[Moved.eq_with hm]
   have es:preSum (fun i=>ns.getD i 0) its.toArray.size=ns.sum:=by
     rw[zJ,hl,PB ns _ (zR _),a5K]
   rw[es]
   exact⟨.int ns.sum,H,I.kept (h':=s'.heap) (t':=s'.toks) hk,⟨t',rfl⟩,q⟩
end L2
namespace DL
open PySem PySem.Spec L2
theorem A03 {X:Cx}{K:Frg}(h:X.K=K) (hc:X.calm=true):BO X (.builtin "sum") (wQ K):=h▸m9 hc
section
variable {K:Frg}{M:Own}{Q:DS->Own->Prop}{H:Hp}
theorem Z0 {W:Addr->Prop}:∀{ns:List Int}{vs:List V},DVs K H W (ns.map a4W) vs->vs=ns.map V.int
 | [],vs,h=>by unfold DVs at h;subst h;rfl
 | n::ns,vs,h=>by
   rw[zI] at h
   unfold DVs at h
   obtain⟨v,r,rfl,h1,h2⟩:=h
   unfold DV at h1
   rw[h1,Z0 h2];rfl
theorem mB {ns:List Int}(q:Q (.d (.int ns.sum)) M):DR K (wQ K) [.d (.list (ns.map .int))] M Q:=fun H vs QQ oa s k=>by
 obtain⟨v,r,rfl,h1,h2⟩:=s
 cases h2
 unfold SI DV at h1
 obtain⟨a,vs,rfl,hl,hd⟩:=h1
 have e:=Z0 hd
 subst e
 exact⟨a,ns,rfl,hl.sq,k _ H (.d (.int ns.sum)) M oa CS Step.refl q⟩
end
end DL
namespace DL
open PySem PySem.Spec L2
def K1 (w:List Th) (D:Deed):List Th:=BG (doT w D)
def N4:List Th->List Deed->Prop
 | _,[]=>True
 | w,D::r=>goD w D/\N4 (K1 w D) r
def JJ:List Th->List Deed->List Th
 | w,[]=>w
 | w,D::r=>JJ (K1 w D) r
theorem Z1:∀{Ds:List Deed}{w:List Th}{D:Deed},JJ w (Ds++[D])=K1 (JJ w Ds) D
 | [],_,_=>rfl
 | _::Ds,w,D=>Z1 (Ds:=Ds)
def C8 (sp:List Str) (D:Deed):List Str:=match D.made with | some _=>sp.drop 1 | none=>sp
theorem SE {as bs:List Str}(p:as.Perm bs) (D:Deed):BB as D=BB bs D:=by
 unfold BB
 congr 1
 funext n
 rw[show decide (n∈as)=decide (n∈bs) from by rw[a3Z];simp[p.mem_iff]]
theorem K2 {as bs:List Str}(p:as.Perm bs) (D:Deed):(B4 as D).Perm (B4 bs D):=by
 cases D with
 | put x q k=>exact p.append_right _
 | take x=>exact p.filter _
 | move x q=>exact p
 | count x k=>exact p
 | name x y=>exact(p.filter _).append_right _
 | split x y q k=>exact p.append_right _
 | join x y=>exact p.filter _
theorem SF {w:List Th}{D:Deed}(h:goD w D):((K1 w D).map (·.1)).Perm (B4 (w.map (·.1)) D):=by
 rw[← OQ h.2.1 h.2.2]
 exact(CK _).map _
theorem FS {so sp:List Str}{D:Deed}(h:∀n,D.made=some n->sp.head?=some n):(B4 so D++C8 sp D).Sublist (so++sp):=by
 have hd:∀n,D.made=some n->sp=n::sp.drop 1:=fun n e=>by
   have:=h n e
   cases sp with
   | nil=>simp at this
   | cons a r=>simp at this;subst this;rfl
 cases D with
 | put x p k=>
   show((so++[x])++sp.drop 1).Sublist _
   conv=>rhs;rw[hd x rfl]
   rw[c0Q]
   exact a1V _
 | take x=>exact(a3K).append (a1V _)
 | move x p=>exact a1V _
 | count x k=>exact a1V _
 | name x y=>
   show(((so.filter fun n=>decide (n≠x))++[y])++sp.drop 1).Sublist _
   conv=>rhs;rw[hd y rfl]
   rw[c0Q]
   exact List.filter_sublist.append (a1V _)
 | split x y p k=>
   show((so++[y])++sp.drop 1).Sublist _
   conv=>rhs;rw[hd y rfl]
   rw[c0Q]
   exact a1V _
 | join x y=>exact(a3K).append (a1V _)
def namesOK (ys:List Str):Prop:=(∀z∈ys,AH z)/\ys.Nodup/\ys.length<=26
theorem namesOK.sub {as bs:List Str}(h:namesOK bs) (s:as.Sublist bs):namesOK as:=⟨fun z hz=>h.1 z (s.subset hz),h.2.1.sublist s,zN s.length_le h.2.2⟩
def AQ (ys:List Str):PyData:=.list (ys.map .str)
def DC:FSp:=⟨fun xs M=>∃(p:Addr) (o:MO) (so sp:List Str),xs=[.loc p,.d (AQ so),.d (AQ sp)]/\M p=some o/\DN o/\namesOK (so++sp)/\(so≠[]∨sp≠[]),
 fun xs M y M'=>∀(p:Addr) (so sp:List Str),xs=[.loc p,.d (AQ so),.d (AQ sp)]->∃(D:Deed) (o:MO),y = .d D.d/\D.real/\BB so D=none/\(∀n,D.made=some n->sp.head?=some n)/\DN o/\M'=M.put p o⟩
theorem MD {p:Addr}{o:MO}{so sp:List Str}{M:Own}{Q:DS->Own->Prop}(m:M p=some o) (ho:DN o) (hn:namesOK (so++sp)) (he:so≠[]∨sp≠[]) (q:∀(D:Deed) (o':MO),D.real->BB so D=none->(∀n,D.made=some n->sp.head?=some n)->DN o'->Q (.d D.d) (M.put p o')) :
   [DS.loc p,.d (AQ so),.d (AQ sp)].length=3/\DC.pre [.loc p,.d (AQ so),.d (AQ sp)] M/\∀x M',DC.post [.loc p,.d (AQ so),.d (AQ sp)] M x M'->Q x M':=
 ⟨rfl,⟨p,o,so,sp,rfl,m,ho,hn,he⟩,fun x M' h=>by obtain⟨D,o',rfl,h1,h2,h3,h4,rfl⟩:=h p so sp rfl;exact q D o' h1 h2 h3 h4⟩
def DW:FSp:=⟨fun xs M=>∃(D:Deed) (so sp:List Str),xs=[.d D.d,.d (AQ so),.d (AQ sp)]/\D.real/\namesOK (so++sp)/\BB so D=none,
 fun xs M y M'=>∀(D:Deed) (so sp:List Str),xs=[.d D.d,.d (AQ so),.d (AQ sp)]->y = .d (.tuple [AQ (B4 so D),AQ (C8 sp D)])/\M'=M⟩
theorem SG {D:Deed}{so sp:List Str}{M:Own}{Q:DS->Own->Prop}(hr:D.real) (hn:namesOK (so++sp)) (ha:BB so D=none) (q:Q (.d (.tuple [AQ (B4 so D),AQ (C8 sp D)])) M) :
   [DS.d D.d,.d (AQ so),.d (AQ sp)].length=3/\DW.pre [.d D.d,.d (AQ so),.d (AQ sp)] M/\∀x M',DW.post [.d D.d,.d (AQ so),.d (AQ sp)] M x M'->Q x M':=
 ⟨rfl,⟨D,so,sp,rfl,hr,hn,ha⟩,fun x M' h=>by obtain⟨rfl,rfl⟩:=h D so sp rfl;exact q⟩
def DX:FSp:=⟨fun xs M=>∃(p:Addr) (o:MO) (ys:List Str) (n:Nat),xs=[.loc p,.d (AQ ys),.d (.int n)]/\M p=some o/\DN o/\namesOK ys/\n<=ys.length,
 fun xs M y M'=>∀(p:Addr) (ys:List Str) (n:Nat),xs=[.loc p,.d (AQ ys),.d (.int n)]->∃(w:List Th) (o:MO),y = .d (wD w)/\DQ w/\(w.map (·.1)).Perm (ys.take n)/\DN o/\M'=M.put p o⟩
theorem bV {p:Addr}{o:MO}{ys:List Str}{n:Nat}{M:Own}{Q:DS->Own->Prop}(m:M p=some o) (ho:DN o) (hy:namesOK ys) (hn:n<=ys.length) (q:∀(w:List Th) (o':MO),DQ w->(w.map (·.1)).Perm (ys.take n)->DN o'->Q (.d (wD w)) (M.put p o')) :
   [DS.loc p,.d (AQ ys),.d (.int n)].length=3/\DX.pre [.loc p,.d (AQ ys),.d (.int n)] M/\∀x M',DX.post [.loc p,.d (AQ ys),.d (.int n)] M x M'->Q x M':=
 ⟨rfl,⟨p,o,ys,n,rfl,m,ho,hy,hn⟩,fun x M' h=>by obtain⟨w,o',rfl,h1,h2,h3,rfl⟩:=h p ys n rfl;exact q w o' h1 h2 h3⟩
def AU (l:Str×Deed):PyData:=.tuple [.str l.1,l.2.d]
def AL (w:List Th) (ls:List (Str×Deed)):PyData:=.tuple [wD w,.tuple (ls.map AU)]
theorem OS {w:List Th}{D:Deed}(hw:DQ w) (hg:goD w D) (hl:w.length < 60):DQ (K1 w D)/\(K1 w D).length<=w.length+1:=by
 obtain⟨_,_,_,h1,h2⟩:=m8 hw hg hl
 exact⟨h1,h2⟩
def IO:List Str:=["put", "move", "count", "name", "split", "join", "take", "count", "split"]
theorem iE:∀k∈IO,b7X k=true:=by decide +kernel
theorem HM {k:Str}(h:k∈IO):zH (.str k)=true:=FQ (iE k h) (by simp[b1J])
theorem C9 {ys:List Str}(h:∀z∈ys,AH z):zH (AQ ys)=true:=JW fun z hz=>FY (h z hz)
theorem BQ (ys:List Str):a0X (AQ ys) (.list [])=ys.isEmpty:=Q5 ys
theorem EC {ys:List Str}{y:Str}:((ys.map a0K).filter fun d=>!a0X d (.str y)).map id=(ys.filter fun z=>decide (z≠y)).map .str:=by
 rw[a9Z,xU]
 congr 1
 apply b3V
 intro z _
 show(!a0X (.str z) (.str y))=_
 rw[C7]
 by_cases e:z=y <;> simp[e]
theorem G3 {as bs:List Str}(h:AQ as=AQ bs):as=bs:=Y9 (by unfold AQ at h;exact PyData.list.inj h)
theorem GL {p p':Addr}{so so' sp sp':List Str}(e:[DS.loc p,.d (AQ so),.d (AQ sp)]=[.loc p',.d (AQ so'),.d (AQ sp')]):p=p'/\so=so'/\sp=sp':=by
 simp only[List.cons.injEq,DS.loc.injEq,DS.d.injEq,and_true] at e
 exact⟨e.1,G3 e.2.1,G3 e.2.2⟩
theorem IP {D D':Deed}{so so' sp sp':List Str}(e:[DS.d D.d,.d (AQ so),.d (AQ sp)]=[.d D'.d,.d (AQ so'),.d (AQ sp')]):D=D'/\so=so'/\sp=sp':=by
 simp only[List.cons.injEq,DS.d.injEq,and_true] at e
 exact⟨D4 e.1,G3 e.2.1,G3 e.2.2⟩
theorem eJ {ys:List Str}(h:∀z∈ys,AH z):(ys.filter fun z=>decide (z≠a0Q ""))=ys:=List.filter_eq_self.mpr fun z hz=>by
 have:=(h z hz).1
 simp
 intro e
 rw[e] at this
 exact absurd this (by decide +kernel)
def wB2 (t:Th):Str×List PyData:=(t.1,[.int t.2.1,.int t.2.2])
def unB (u:Str×List PyData):Th:=match u with | (a,[.int p,.int c])=>(a,p,c) | (a,_)=>(a,0,0)
theorem mD (w:List Th):(w.map wB2).map OK=w.map thD:=by rw[zD];rfl
theorem mE {ts:List (Str×List PyData)}{w:List Th}(h:ts.Perm (w.map wB2)):(ts.map unB).Perm w/\ts.map OK=(ts.map unB).map thD/\(ts.map unB).map (·.1)=ts.map (·.1):=by
 have e:(w.map wB2).map unB=w:=by rw[zD];exact a9Z _
 refine⟨by have:=h.map unB;rw[e] at this;exact this,?_,?_⟩
 · rw[zD]
   apply yM
   intro u hu
   obtain⟨t,_,rfl⟩:=zL.mp (h.mem_iff.mp hu)
   rfl
 · rw[zD]
   apply yM
   intro u hu
   obtain⟨t,_,rfl⟩:=zL.mp (h.mem_iff.mp hu)
   rfl
theorem bW {ts:List (Str×List PyData)}(h:ts.Pairwise fun x y=>x.1.cps.toList < y.1.cps.toList):Ris (ts.map (·.1)):=by
 unfold Ris
 rw[a3V]
 exact h.imp fun {a b} q=>by rw[← A0U];exact decide_eq_true q
def wsF (w:List Th) (Ds:List Deed) (k:Nat):List Th:=JJ w (Ds.take k)
theorem rD {w:List Th}{Ds:List Deed}{k:Nat}{D:Deed}(h:Ds[k]?=some D):wsF w Ds (k+1)=K1 (wsF w Ds k) D:=by
 unfold wsF
 rw[a5Q,h]
 exact Z1
theorem WF:∀{Ds:List Deed}{w:List Th}{k:Nat},N4 w Ds->DQ w->w.length+Ds.length < 60->k<=Ds.length->DQ (wsF w Ds k)/\(wsF w Ds k).length<=w.length+k/\∀D,Ds[k]?=some D->goD (wsF w Ds k) D
 | [],w,k,_,hf,_,hk=>by
   have e:k=0:=by simpa using hk
   subst e
   exact⟨hf,zR _,fun D h=>by simp at h⟩
 | D::r,w,0,hb,hf,_,_=>⟨hf,zR _,fun D' h=>by simp at h;subst h;exact hb.1⟩
 | D::r,w,k+1,hb,hf,hl,hk=>by
   have hl':w.length+r.length+1 < 60:=by simpa [Nat.add_assoc] using hl
   obtain⟨f1,f2⟩:=OS hf hb.1 (by omega)
   obtain⟨a,b,c⟩:=WF (Ds:=r) (w:=K1 w D) (k:=k) hb.2 f1 (by omega) (by simpa using hk)
   have e:wsF w (D::r) (k+1)=wsF (K1 w D) r k:=rfl
   rw[e]
   exact⟨a,by omega,fun D' h=>c D' (by simpa using h)⟩
def bkF (w:List Th) (Ds:List Deed) (j:Nat):PyData:=match Ds[j]? with | some D=>(BY (wsF w Ds j) D).d | none=>.none
def bkL (w:List Th) (Ds:List Deed) (k:Nat):List PyData:=(a1Q k).map (bkF w Ds)
theorem mF {w:List Th}{Ds:List Deed}{k:Nat}:bkL w Ds (k+1)=bkL w Ds k++[bkF w Ds k]:=by
 unfold bkL;rw[List.range_succ,xI];rfl
theorem rE {w:List Th}{Ds:List Deed}{k:Nat}:(bkL w Ds k).length=k:=by simp[bkL]
theorem SH:∀z∈[a0Q "me", "you", "abcdefgh"],AH z:=by
 intro z hz
 simp only[yX,xX,or_false] at hz
 rcases hz with rfl | rfl | rfl <;> (refine⟨by decide +kernel,by decide +kernel,?_⟩;decide +kernel)
theorem iF:xJ 915965594177219015054603514932384110774149374281672134266497<=256:=by decide +kernel
theorem rF {c:Int}(h:xJ c<=2 ^ 21):IntMulOk c 915965594177219015054603514932384110774149374281672134266497:=PySem.IntMulOk.of_le h iF (by decide)
end DL
namespace DL
open PySem PySem.Spec L2
def BL (ts:List (Int×PyData)):List (PyData×PyData):=ts.map fun t=>(a4W t.1,t.2)
def JK (ts:List (Int×PyData)) (k:Int) (d:PyData):List (Int×PyData):=
 if (ts.any fun t=>decide (t.1=k))=true then ts.map (fun t=>if t.1=k then (t.1,d) else t) else ts++[(k,d)]
def HN:List (Int×PyData)->Int->Option PyData
 | [],_=>none
 | t::r,k=>if t.1=k then some t.2 else HN r k
section
variable {K:Frg}{H:Hp}{W:Addr->Prop}
theorem CT {t:Int×PyData}{ts:List (Int×PyData)}{ks:List (Key×V)}:DKV K H W (BL (t::ts)) ks↔∃v r,ks=(a4X t.1,v)::r/\DV K H W t.2 v/\DKV K H W (BL ts) r:=by
 unfold BL
 rw[zI]
 constructor
 · intro h
   unfold DKV at h
   obtain⟨k',v,r,e,e2,h1,h2⟩:=h
   cases k' with
   | inr i=>cases e2
   | inl x=>
     have e3:t.1=x:=by simpa [gC] using e2
     subst e3
     exact⟨v,r,e,h1,h2⟩
 · rintro⟨v,r,e,h1,h2⟩
   unfold DKV
   exact⟨a4X t.1,v,r,e,rfl,h1,h2⟩
theorem G4 {ks:List (Key×V)}:DKV K H W (BL []) ks↔ks=[]:=by unfold BL;simp only[a4J];unfold DKV;exact Iff.rfl
theorem UZ:∀{ts:List (Int×PyData)}{ks:List (Key×V)},DKV K H W (BL ts) ks->ks.map (·.1)=(ts.map (·.1)).map a4X
 | [],ks,h=>by rw[G4.mp h];rfl
 | t::ts,ks,h=>by obtain⟨v,r,rfl,_,h2⟩:=CT.mp h;simp[UZ h2]
theorem Z2 {k:Int}:∀{ts:List (Int×PyData)}{ks:List (Key×V)},DKV K H W (BL ts) ks->(ks.any fun kv=>decide (kv.1=a4X k))=ts.any fun t=>decide (t.1=k)
 | [],ks,h=>by rw[G4.mp h];rfl
 | t::ts,ks,h=>by
   obtain⟨v,r,rfl,_,h2⟩:=CT.mp h
   rw[a9J,a9J,Z2 h2]
   congr 1
   by_cases e:t.1=k
   · rw[decide_eq_true e,decide_eq_true (by rw[e])]
   · rw[decide_eq_false e,decide_eq_false fun q=>e (by injection q)]
theorem OT {k:Int}{d:PyData}{v:V}(hd:DV K H W d v):∀{ts:List (Int×PyData)}{ks:List (Key×V)},DKV K H W (BL ts) ks ->
   DKV K H W (BL (ts.map fun t=>if t.1=k then (t.1,d) else t)) (ks.map fun kv=>if kv.1=a4X k then (kv.1,v) else kv)
 | [],ks,h=>by rw[G4.mp h];exact G4.mpr rfl
 | t::ts,ks,h=>by
   obtain⟨u,r,rfl,h1,h2⟩:=CT.mp h
   rw[zI,zI]
   by_cases e:t.1=k
   · rw[if_pos e,if_pos (by rw[e])]
     exact CT.mpr ⟨v,_,rfl,hd,OT hd h2⟩
   · rw[if_neg e,if_neg fun q=>e (by injection q)]
     exact CT.mpr ⟨u,_,rfl,h1,OT hd h2⟩
theorem V0 {k:Int}{d:PyData}{v:V}(hd:DV K H W d v):∀{ts:List (Int×PyData)}{ks:List (Key×V)},DKV K H W (BL ts) ks->DKV K H W (BL (ts++[(k,d)])) (ks++[(a4X k,v)])
 | [],ks,h=>by rw[G4.mp h];exact CT.mpr ⟨v,[],rfl,hd,G4.mpr rfl⟩
 | t::ts,ks,h=>by
   obtain⟨u,r,rfl,h1,h2⟩:=CT.mp h
   exact CT.mpr ⟨u,_,rfl,h1,V0 hd h2⟩
theorem Z3 {k:Int}{d:PyData}{v:V}{ts:List (Int×PyData)}{ks:List (Key×V)}(h:DKV K H W (BL ts) ks) (hd:DV K H W d v):DKV K H W (BL (JK ts k d)) (EX ks (a4X k) v):=by
 unfold JK EX
 rw[Z2 h]
 by_cases c:(ts.any fun t=>decide (t.1=k))=true
 · rw[if_pos c,if_pos c];exact OT hd h
 · rw[if_neg c,if_neg c];exact V0 hd h
theorem KN {k:Int}:∀{ts:List (Int×PyData)}{ks:List (Key×V)},DKV K H W (BL ts) ks->(∃d v,HN ts k=some d/\E9 ks (a4X k)=some v/\DV K H W d v)∨(HN ts k=none/\E9 ks (a4X k)=none)
 | [],ks,h=>by rw[G4.mp h];exact .inr ⟨rfl,rfl⟩
 | t::ts,ks,h=>by
   obtain⟨u,r,rfl,h1,h2⟩:=CT.mp h
   by_cases e:t.1=k
   · exact .inl ⟨t.2,u,by simp[HN,e],JN (by rw[e]),h1⟩
   · have e':¬(a4X t.1:Key)=a4X k:=fun q=>e (by injection q)
     rcases KN (k:=k) h2 with ⟨d,v,a1,a2,a3⟩ | ⟨a1,a2⟩
     · exact .inl ⟨d,v,by simp[HN,e,a1],by rw[FV (p:=(a4X t.1,u)) e'];exact a2,a3⟩
     · exact .inr ⟨by simp[HN,e,a1],by rw[FV (p:=(a4X t.1,u)) e'];exact a2⟩
end
section
variable {K:Frg}{M:Own}{Q:DS->Own->Prop}{ρ:List (Option DS)}{H:Hp}{td ty tv:TE}{D:EndsD}
theorem iG (h:DE K td ρ M fun x M1=>DE K ty ρ M1 fun y M2=>∃(a:Addr) (ts:List (Int×PyData)) (k:Int) (d:PyData),x = .loc a/\y = .d (.int k)/\M2 a=some (.d (BL ts))/\HN ts k=some d/\Q (.d d) M2):DE K (jR td ty) ρ M Q:=fun σ H QQ R kk=>
 h σ H _ R fun v H1 x M1 o1 s1 t1 h1=>h1 σ H1 _ (R.step o1 t1) fun u H2 y M2 o2 s2 t2 h2=>by
   obtain⟨a,ts,k,d,rfl,rfl,m,l,q⟩:=h2
   unfold SI at s1
   subst s1
   rw[BN s2]
   obtain⟨ks,e1,e2⟩:=o2 a _ m
   rcases KN (k:=k) e2 with ⟨d',w',a1,a2,a3⟩ | ⟨a1,a2⟩
   · rw[l] at a1
     cases a1
     exact⟨a,w',rfl,.inl ⟨ks,a4X k,.inl e1,rfl,a2.symm⟩,kk _ H2 (.d d) M2 o2 a3 (t1.trans t2) q⟩
   · rw[l] at a1;cases a1
theorem mG (h:DE K ty ρ M fun y M1=>DE K td ρ M1 fun x M2=>∃(a:Addr) (ts:List (Int×PyData)) (k:Int),x = .loc a/\y = .d (.int k)/\M2 a=some (.d (BL ts))/\Q (.d (.bool (HN ts k).isSome)) M2):DE K (v7 ty td) ρ M Q:=fun σ H QQ R kk=>
 h σ H _ R fun v H1 x M1 o1 s1 t1 h1=>h1 σ H1 _ (R.step o1 t1) fun u H2 y M2 o2 s2 t2 h2=>by
   obtain⟨a,ts,k,rfl,rfl,m,q⟩:=h2
   unfold SI at s2
   subst s2
   rw[BN s1]
   obtain⟨ks,e1,e2⟩:=o2 a _ m
   refine⟨a,E9 ks (a4X k),rfl,.inl ⟨ks,a4X k,.inl e1,rfl,rfl⟩,kk _ H2 _ M2 o2 ?_ (t1.trans t2) q⟩
   rcases KN (k:=k) e2 with ⟨d',w',a1,a2,a3⟩ | ⟨a1,a2⟩
   · rw[a1,a2];exact AI
   · rw[a1,a2];exact AI
theorem mH (h:DE K tv ρ M fun z M1=>DE K td ρ M1 fun x M2=>DE K ty ρ M2 fun y M3=>∃(a:Addr) (ts:List (Int×PyData)) (k:Int) (d:PyData),z = .d d/\x = .loc a/\y = .d (.int k)/\M3 a=some (.d (BL ts))/\ts.length < sizeLine/\D.nx ρ (M3.put a (.d (BL (JK ts k d))))):DSt K (jS td ty tv) ρ M D:=fun σ H E R k1 k2 k3 k4=>
 h σ H _ R fun v H1 z M1 o1 s1 t1 h1=>h1 σ H1 _ (R.step o1 t1) fun u H2 x M2 o2 s2 t2 h2=>h2 σ H2 _ (R.step o2 (t1.trans t2)) fun yv H3 y M3 o3 s3 t3 h3=>by
   obtain⟨a,ts,k,d,rfl,rfl,rfl,m,hl,q⟩:=h3
   unfold SI at s2
   subst s2
   rw[BN s3]
   obtain⟨ks,e1,e2⟩:=o3 a _ m
   have hd:DV K H3 M3.W d v:=DV.grow (t2.trans t3).grow s1
   obtain⟨o4,t4⟩:=D7 o3 m (Z3 (k:=k) e2 hd)
   have hlen:ks.length < sizeLine:=by rw[MW e2];unfold BL;rw[zX];exact hl
   have ta:=((t1.trans t2).trans t3).trans t4
   exact⟨a,_,rfl,.inl ⟨ks,a4X k,e1,rfl,hlen,rfl⟩,k1 ρ _ σ _ (R.step o4 ta) ta q⟩
theorem iH (h:DE K ty ρ M fun y M1=>DE K td ρ M1 fun x M2=>∃(a:Addr) (ts:List (Int×PyData)) (k:Int),x = .loc a/\y = .d (.int k)/\M2 a=some (.d (BL ts))/\Q (.d (.bool (!(HN ts k).isSome))) M2):DE K (dB ty td) ρ M Q:=fun σ H QQ R kk=>
 h σ H _ R fun v H1 x M1 o1 s1 t1 h1=>h1 σ H1 _ (R.step o1 t1) fun u H2 y M2 o2 s2 t2 h2=>by
   obtain⟨a,ts,k,rfl,rfl,m,q⟩:=h2
   unfold SI at s2
   subst s2
   rw[BN s1]
   obtain⟨ks,e1,e2⟩:=o2 a _ m
   refine⟨a,E9 ks (a4X k),rfl,.inl ⟨ks,a4X k,.inl e1,rfl,rfl⟩,kk _ H2 _ M2 o2 ?_ (t1.trans t2) q⟩
   rcases KN (k:=k) e2 with ⟨d',w',a1,a2,a3⟩ | ⟨a1,a2⟩
   · rw[a1,a2];exact AI
   · rw[a1,a2];exact AI
end
section
variable {K:Frg}{M:Own}{ρ:List (Option DS)}{wi:TI}{g:TG}{H:Hp}
theorem mI (ts:List (Int×PyData)) (k:Int) (d:PyData):(JK ts k d).length<=ts.length+1:=by
 unfold JK
 split
 · rw[zX];exact b4X _
 · rw[yY];exact zR _
theorem Z4 (f:PyData->Int) (w:PyData->PyData):∀(ds:List PyData) (ts:List (Int×PyData)),(ds.foldl (fun ts d=>JK ts (f d) (w d)) ts).length<=ts.length+ds.length
 | [],ts=>zR _
 | d::r,ts=>by
   have h1:=Z4 f w r (JK ts (f d) (w d))
   have h2:=mI ts (f d) (w d)
   rw[yR]
   show(r.foldl _ (JK ts (f d) (w d))).length<=_
   omega
theorem iI {fr:List (Option Nat)}{tt:TT}{tk tv:TE}{T:List Nat}{Q:DS->Own->Prop}(ho:RE g T) (hT:∀i∈T,∀j,fr[i]?≠some (some j))
   (h:DI K wi ρ M fun ds M1=>ds.length < sizeLine/\∃(c:PyData->Bool) (f:PyData->Int) (w:PyData->PyData),True /\
     (∀d∈ds,∀M',DG K g d (L7 fr ρ) M' fun ρ2 M2=>M2=M'/\DT K tt ρ2 M2 fun b M3=>M3=M'/\b=c d/\(c d=true->DE K tk ρ2 M3 fun y M4=>y = .d (.int (f d))/\M4=M'/\DE K tv ρ2 M4 fun z M5=>z = .d (w d)/\M5=M')) /\
     ∀p,M1 p=none->Q (.loc p) (M1.put p (.d (BL ((ds.filter c).foldl (fun ts d=>JK ts (f d) (w d)) []))))) :
   DE K (W8 fr wi g tt tk tv) ρ M Q:=fun σ H QQ R k=>
 h σ H _ R fun J ds H1 M1 o1 t1 wd ⟨hsz,c,f,w,nd,he,hq⟩=>by
   intro A hA
   obtain⟨oA,sA⟩:=RF (kvs:=[]) (ks:=[]) o1 hA (by unfold DKV;rfl)
   have hM:=o1.none hA
   let acc:Nat->List (Int×PyData):=fun i=>((ds.take i).filter c).foldl (fun ts d=>JK ts (f d) (w d)) []
   refine⟨fun i m ys H2=>m=ds.length - i/\i<=ds.length/\H2 A=some (.dK ys)/\OA K H2 (M1.put A (.d (BL (acc i))))/\Step K M1 (M1.put A (.d (BL (acc i)))) H1 H2,⟨_,rfl,xT _,AK,oA,sA⟩,?_⟩
   rintro i m ys H2 ⟨rfl,hi,hys,oa,st⟩
   refine⟨hys,?_⟩
   by_cases hlt:i < ds.length
   · refine .inr ⟨wd.go i H2 _ hlt oa st,fun x H3 y=>?_⟩
     obtain⟨oa3,st3,d,e1,e2⟩:=wd.yld i H2 _ x H3 oa st hlt y
     have Rc:Rel K (M1.put A (.d (BL (acc i)))) (L7 fr ρ) (L2.capt fr σ) H3:=((R.step o1 t1).step oa3 (st.trans st3)).capt
     have ts:(ds.take (i+1)).filter c=(ds.take i).filter c++(if c d then [d] else []):=take_succ_filter c ds i d e1
     refine ho _ _ _ _ (he d (yN e1) _ (L2.capt fr σ) H3 x _ Rc e2 fun ρ3 M3 σ3 H4 R3 st4 ⟨eM,b3⟩ hext=>⟨fun i' v' hv'=>?_,?_⟩)
     · obtain⟨j,f1,f2⟩:=KI hv'
       rw[hext i' fun hm=>hT i' hm j f1]
       exact hv'
     · subst eM
       refine b3 σ3 H4 _ R3 fun b H5 M5 o5 st5 ⟨eM5,eb,h5⟩=>?_
       subst eM5
       have sx:=((st.trans st3).trans st4).trans st5
       cases hb:c d with
       | false=>
         rw[hb] at eb
         subst eb
         rw[if_neg nft]
         obtain⟨ks,q1,q2⟩:=o5 A _ zU
         have ea:acc (i+1)=acc i:=by show(((ds.take (i+1)).filter c).foldl _ _)=_;rw[ts,hb];simp[acc]
         refine⟨ks,ds.length - (i+1),by omega,rfl,hlt,q1,?_,?_⟩
         · rw[ea];exact o5
         · rw[ea];exact sx
       | true=>
         rw[hb] at eb
         subst eb
         rw[if_pos rfl]
         refine h5 hb σ3 H5 _ (R3.step o5 st5) fun y H6 z M6 o6 s6 st6 ⟨ez,eM6,h6⟩=>?_
         subst ez eM6
         refine h6 σ3 H6 _ ((R3.step o5 st5).step o6 st6) fun y2 H7 z2 M7 o7 s7 st7 ⟨ez2,eM7⟩=>?_
         subst ez2 eM7
         obtain⟨ks,q1,q2⟩:=o7 A _ zU
         obtain⟨w1,w2⟩:=D7 o7 zU (Z3 (k:=f d) q2 s7)
         have ea:acc (i+1)=JK (acc i) (f d) (w d):=by
           show(((ds.take (i+1)).filter c).foldl _ _)=_
           rw[ts,hb,if_pos rfl,b9K];rfl
         have hlen:ks.length < sizeLine:=by
           rw[MW q2]
           unfold BL
           rw[zX]
           refine zQ (Z4 _ _ _ _) ?_
           rw[b2W,Nat.zero_add]
           exact zQ (zN (yJ _ _) (by rw[a0J];omega)) hsz
         rw[yI] at w1 w2
         refine⟨ks,a4X (f d),BN s6,q1,hlen,ds.length - (i+1),by omega,rfl,hlt,AK,?_,?_⟩
         · rw[ea];exact w1
         · rw[ea];exact((sx.trans st6).trans st7).trans w2
   · have e:i=ds.length:=by omega
     subst e
     refine .inl ⟨wd.stop H2 _ oa st,k _ H2 (.loc A) _ oa rfl (t1.trans st) ?_⟩
     have:=hq A hM
     have ea:acc ds.length=(ds.filter c).foldl (fun ts d=>JK ts (f d) (w d)) []:=by show(((ds.take ds.length).filter c).foldl _ _)=_;rw[a5K]
     rw[ea]
     exact this
end
end DL
namespace L2
open PySem PySem.Spec PyProof.Rows PySem.W
section
variable {prog:Program}{w:World}{A:Around}{E:Value->Shared->Prop}{s:Shared}
theorem WG {d:Addr}{kvs:List (Key×Value)}{ss:List Int}{Q:Value->Shared->Prop}(hh:A.handled=none) (hd:(d==sysModules)=false) (dd:s.heap.DictOf (AO prog w) d kvs) (hk:kvs.map (·.1)=ss.map a4X) (h64:ss.length < 64)
   (h:∀(h1 h':Heap) (tk:Nat) (out:List Value) (e:Nat) (ss':List Int),(∀b o,s.heap.get? b=some o->h1.get? b=some o)->(∀b o,h1.get? b=some o->h'.get? b=some o)->h'.get? h1.objs.size=some (seqObj "list" out.toArray e)->IntsAre out ss'->ss'.Perm ss->ss'.Pairwise (·<=·)->Q (.ref h1.objs.size) { s with heap:=h',toks:=tk }) :
   wpAny (model prog w) A (call (.builtin "sorted") [.ref d]) Q E s:=by
 refine b7V kind_sorted plain_sorted entry_sorted (args_sorted1 _) ?_
 obtain⟨ep,hat⟩:=dd.dictAt
 have hlen:kvs.length=ss.length:=by have:=congrArg b2X hk;simpa using this
 unfold Builtin.«sorted»;refine zZ (m:=checkCount "sorted" 1 1 _) (zY (zZ (kdu_collect (A:=A.in1) (kdl_dict (kvs:=kvs) (ep:=ep) hd) hh hat (by rw[hlen,sizeLine_eq];omega) fun h' tk acc hold hacc=>?_)))
 have hl:acc.toList.length=ss.length:=by rw[a3J,hacc.1,hlen]
 have hS:IntsAre acc.toList ss:=by
   have go:∀(vs:List Value) (zs:List Int),vs.length=zs.length->(∀(i:Nat) v x,vs[i]?=some v->zs[i]?=some x->∃t,v=b5V x t)->IntsAre vs zs:=by
     intro vs
     induction vs with
     | nil=>intro zs hz _;cases zs with
       | nil=>exact .nil
       | cons _ _=>simp at hz
     | cons v vs ih=>intro zs hz hv;cases zs with
       | nil=>simp at hz
       | cons x zs=>
         obtain⟨t,rfl⟩:=hv 0 v x rfl rfl
         exact .cons x t (ih zs (by simpa using hz) fun i v x e1 e2=>hv (i+1) v x (by simpa using e1) (by simpa using e2))
   refine go _ _ hl fun i v x e1 e2=>?_
   obtain⟨k,y,g1,g2⟩:=hacc.2 i v (by rw[← a7Z];exact e1)
   have e3:(kvs.map (·.1))[i]?=some k:=by rw[zF,g1];rfl
   rw[hk,zF,e2] at e3
   cases e3
   have g2':JM (.inl x) v=true:=g2
   rcases AS g2' with ⟨i,t,e,e'⟩ | ⟨z,t,e,e'⟩
   · cases e;exact⟨t,e'⟩
   · cases e
 refine zZ (wpAny_newList ?_ (by rw[hl,sizeLine_eq];omega))
 have hoL:(h'.push (seqObj "list" acc.toList.toArray 0)).get? h'.objs.size=some (seqObj "list" acc.toList.toArray 0):=yZ _ rfl
 show wpAny _ _ _ _ _ { s with heap:=h'.push (seqObj "list" acc.toList.toArray 0),toks:=tk }
 refine zZ (wpAny_holding (wpAny_call_entry (s:={ s with heap:=h'.push (seqObj "list" acc.toList.toArray 0),toks:=tk }) slot_list_sort ⟨_,hoL,rfl⟩ entry_list_sort (list_sort_tree hoL hS (by rw[hl];exact h64) fun out ns' a1 a2 a3=>⟨_,rfl,?_⟩) (args_list_sort _)))
 obtain⟨e,he⟩:=sortedHeap_at (out:=out) hoL
 refine zY ⟨_,rfl,h h' _ tk out.toList e ns' hold (fun b o q=>?_) (by rw[Array.toArray_toList];exact he) a1 a2 a3⟩
 have lt:b < h'.objs.size:=zM q
 rw[sortedHeap_old (zC lt) (by rw[size_push'];exact b0V lt)]
 exact zW _ q
end
section
variable {X:Cx}
theorem mJ:∀{vs:List Value}{ns:List Int},IntsAre vs ns->Vals (ns.map V.int) vs
 | _,_,.nil=>.nil
 | _,_,.cons n t r=>.cons ⟨t,rfl⟩ (mJ r)
theorem eL:∀{ns:List Int}{vs:List Value},Vals (ns.map V.int) vs->IntsAre vs ns
 | [],_,.nil=>.nil
 | n::ns,_,.cons r t=>by obtain⟨u,rfl⟩:=r;exact .cons n u (eL t)
def mK (K:Frg):List V->Hp->VK->Prop:=fun xs H Q=>∃(p:Addr) (ss:List Int),xs=[.ref p]/\SqL K H p (ss.map V.int)/\ss.length < 64/\∀(ss':List Int) (q:Addr),ss'.Perm ss->ss'.Pairwise (·<=·)->H q=none->Q (.ref q) (upd H q (.lst (ss'.map V.int)))
def eO:List V->Hp->VK->Prop:=fun xs H Q=>∃(p:Addr) (kvs:List (Key×V)) (ss:List Int),xs=[.ref p]/\Rd H p (.dK kvs)/\kvs.map (·.1)=ss.map a4X/\ss.length < 64/\∀(ss':List Int) (q:Addr),ss'.Perm ss->ss'.Pairwise (·<=·)->H q=none->Q (.ref q) (upd H q (.lst (ss'.map V.int)))
theorem bX:BO X (.builtin "sorted") (mK X.K):=by
 intro pins s σ H xs us Q I r h
 obtain⟨p,ss,rfl,hp,h64,q⟩:=h
 obtain⟨u,rfl,ru⟩:=F6 r
 cases ru
 obtain⟨its,rv,pl,hz⟩:=I.list hp
 have hS:=eL rv
 have el:=rv.length
 rw[zX] at el
 refine sorted_ints pl.isList hS (by omega) fun out ss' h1 h2 h3=>?_
 obtain⟨e,he⟩:=sortedAll_at s.heap its out
 have hn:H (s.heap.objs.size+1)=none:=I.hok.fresh (b4X _)
 have hlen:=h2.length_eq
 refine⟨.ref (s.heap.objs.size+1),_,I.laid (t':=s.toks) (o:=.lst (ss'.map V.int)) (fun b o eb=>sortedAll_old eb) (b4X _) ?_,rfl,q ss' _ h2 h3 hn⟩
 refine⟨by rw[zX,hlen];exact zN (xR h64) (by decide),out.toList,e,mJ h1,?_⟩
 have he':=he
 simpa [seqObj] using he'
theorem Z5 (hc:X.calm=true):BO X (.builtin "sorted") eO:=by
 intro pins s σ H xs us Q I r h
 obtain⟨p,kvs,ss,rfl,hp,hk,h64,q⟩:=h
 obtain⟨u,rfl,ru⟩:=F6 r
 cases ru
 obtain⟨z,hd,vs,rel,dd⟩:=JP I.hok hp
 have hk':vs.map (·.1)=ss.map a4X:=by
   rw[← hk]
   clear hk dd z hp q
   unfold KV at rel
   induction rel with
   | nil=>rfl
   | cons h t ih=>simp[h.1,ih]
 refine WG (I.ok.hd hc) hd dd hk' h64 fun h1 h' tk out e ss' k1 k2 ho hS hperm hsort=>?_
 have I1:Inv X pins σ H { s with heap:=h1,toks:=tk }:=I.kept k1
 have hn:H h1.objs.size=none:=I1.hok.fresh (zR _)
 refine⟨.ref h1.objs.size,_,I1.laid (t':=tk) (o:=.lst (ss'.map V.int)) (h':=h') k2 (zR _) ?_,rfl,q ss' _ hperm hsort hn⟩
 refine⟨by rw[zX,hperm.length_eq];exact zN (xR h64) (by decide),out,e,mJ hS,?_⟩
 simpa [seqObj] using ho
def WH (K:Frg):List V->Hp->VK->Prop:=fun xs H Q=>OJ K xs H Q∨mK K xs H Q∨eO xs H Q
theorem bY (hc:X.calm=true):BO X (.builtin "sorted") (WH X.K):=by
 intro pins s σ H xs us Q I r h
 rcases h with h | h | h
 · exact RU hc pins s σ H xs us Q I r h
 · exact bX pins s σ H xs us Q I r h
 · exact Z5 hc pins s σ H xs us Q I r h
end
end L2
namespace DL
open PySem PySem.Spec L2
theorem mL {X:Cx}{K:Frg}(h:X.K=K) (hc:X.calm=true):BO X (.builtin "sorted") (WH K):=h▸bY hc
section
variable {K:Frg}{M:Own}{Q:DS->Own->Prop}{H:Hp}
theorem EQ {W:Addr->Prop}:∀{bs:List Int},DVs K H W (bs.map a4W) (bs.map V.int)
 | []=>DVs.nil
 | b::bs=>DVs.cons (by unfold DV;rfl) EQ
theorem V1 {W:Addr->Prop}:∀{ns:List Int}{vs:List V},DVs K H W (ns.map a4W) vs->vs=ns.map V.int
 | [],vs,h=>by unfold DVs at h;subst h;rfl
 | n::ns,vs,h=>by
   rw[zI] at h
   unfold DVs at h
   obtain⟨v,r,rfl,h1,h2⟩:=h
   unfold DV at h1
   rw[h1,V1 h2];rfl
theorem mM {ss:List Int}(h64:ss.length < 64) (q:∀ss':List Int,ss'.Perm ss->ss'.Pairwise (·<=·)->Q (.d (.list (ss'.map .int))) M):DR K (WH K) [.d (.list (ss.map .int))] M Q:=fun H vs QQ oa s k=>by
 obtain⟨v,r,rfl,h1,h2⟩:=s
 cases h2
 unfold SI DV at h1
 obtain⟨a,vs,rfl,hl,hd⟩:=h1
 have e:=V1 hd
 subst e
 refine .inr (.inl ⟨a,ss,rfl,hl.sq,h64,fun ss' p hp hs hn=>?_⟩)
 have g:Grow K M.W M.W H (upd H p (.lst (ss'.map V.int))):=AW _ hn
 refine k _ _ (.d (.list (ss'.map .int))) M (oa.new hn) ?_ ⟨g⟩ (q ss' hp hs)
 unfold SI DV
 exact⟨p,_,rfl,.inl ⟨fun w=>w (oa.none hn),.inl AK⟩,EQ⟩
theorem iJ {a:Addr}{ts:List (Int×PyData)}(m:M a=some (.d (BL ts))) (h64:ts.length < 64) (q:∀ss:List Int,ss.Perm (ts.map (·.1))->ss.Pairwise (·<=·)->Q (.d (.list (ss.map .int))) M):DR K (WH K) [.loc a] M Q:=fun H vs QQ oa s k=>by
 obtain⟨v,r,rfl,h1,h2⟩:=s
 cases h2
 unfold SI at h1
 subst h1
 obtain⟨ks,e1,e2⟩:=oa a _ m
 refine .inr (.inr ⟨a,ks,ts.map (·.1),rfl,.inl e1,UZ e2,by rw[zX];exact h64,fun ss' p hp hs hn=>?_⟩)
 have g:Grow K M.W M.W H (upd H p (.lst (ss'.map V.int))):=AW _ hn
 refine k _ _ (.d (.list (ss'.map .int))) M (oa.new hn) ?_ ⟨g⟩ (q ss' hp hs)
 unfold SI DV
 exact⟨p,_,rfl,.inl ⟨fun w=>w (oa.none hn),.inl AK⟩,EQ⟩
end
end DL
namespace DL
open PySem PySem.Spec L2
open PyProof.Rows (envOfC AllBare)
def PD (k:Nat):Stmt->Stmt
 | .ClassDef _ _ _ b _ _ _ _ _ _ _=>b.getD k (.Pass ⟨0,0,0,0⟩)
 | _=>.Pass ⟨0,0,0,0⟩
end DL
namespace L2
open PySem PySem.Spec PyProof.Rows
def Ite (K:Frg) (l:Addr):It:=
 ⟨fun i H=>∃xs,SqL K H l xs/\i < xs.length,
  fun i H x H'=>∃p a,H p=none/\x = .ref p/\H'=upd H p (.tup [.int (i:Nat),a])/\∀xs,SqL K H l xs->xs[i]?=some a,
  fun i H=>∃xs,SqL K H l xs/\xs.length<=i⟩
theorem iK {P:Program}{w:World}{K:Frg}{elts:List Expr}{kk:Nat}{tpos:Pos}(e it l:Addr) (d1:e≠it) :
   Turn P w K (.Tuple elts kk tpos) (Ite K l) [e,it] e (fun i h=>(∃old,IsEnum h e it (i:Nat) old)/\h.IsListIter it l i) where
 mem:=by simp
 obj:=fun i h ⟨⟨old,a1⟩,a2⟩ b hb=>by
   simp only[yX,xX,or_false] at hb
   rcases hb with rfl | rfl
   · exact⟨_,a1,fun v q=>by cases q⟩
   · obtain⟨o,q,c,d⟩:=a2;exact⟨o,q,fun v z=>by rw[d] at z;cases z⟩
 keep:=fun i h h' ⟨⟨old,a1⟩,a2⟩ k=>⟨⟨old,k e (by simp) _ a1⟩,a2.at fun o q=>k it (by simp) o q⟩
 item:=by
   intro X hP hw hK hc i pins s σ H E I hf ⟨⟨old,a1⟩,a2⟩ hg
   subst hP hw hK
   obtain⟨xs,hx,lx⟩:=hg
   obtain⟨its,rx,px,_⟩:=I.list hx
   obtain⟨u,hu,ru⟩:=rx.get (zV lx)
   have hle:l≠e:=tI I (hf e (by simp)) hx
   have hli:l≠it:=tI I (hf it (by simp)) hx
   refine wpAny_pyNext_enum_item a1 a2 px.isList (x:=u) (by simpa using hu) d1 fun h' b1 b2 b3 b4 hk=>?_
   refine⟨_,rfl,wpAny_letOwnedTupleGo_enum (s:={ s with heap:=h',toks:=s.toks+1 }) b1 fun h2 c1 sb=>?_⟩
   have lt:∀{c o},s.heap.get? c=some o->s.heap.objs.size≠c:=fun q=>a8Q (zM q)
   have keep:∀b o,b∉[e,it]->s.heap.get? b=some o->h2.get? b=some o:=fun b o hb q=>by
     simp only[yX,xX,or_false,not_or] at hb
     exact sb.extBut b o hb.1 (hk b o hb.1 hb.2 q)
   have hTe:s.heap.objs.size≠e:=lt a1
   have I1:Inv X pins σ (upd H s.heap.objs.size (.tup [.int (i:Nat),xs[i]])) { s with heap:=h2,toks:=s.toks+1 }:=I.turnedT (t':=s.toks+1) (ch:=[e,it]) keep (fun b hb=>(hf b hb).1)
     (fun b hb=>let q:=hf b hb;⟨q.2.2.2.1,q.2.1,q.2.2.2.2.1,q.2.2.2.2.2⟩) (zR _)
     ⟨by show 2<=sizeLine;decide,[.int (i:Nat) s.toks,u],.cons ⟨_,rfl⟩ (.cons ru .nil),⟨_,sb.extBut _ _ hTe b3,rfl,_,rfl⟩⟩
   refine⟨.ref s.heap.objs.size,_,I1,rfl,⟨s.heap.objs.size,xs[i],I.hok.fresh (zR _),rfl,rfl,fun xs' hx'=>?_⟩,⟨⟨_,c1⟩,b2.extBut sb.extBut (b4Z d1)⟩,fun b hb=>?_⟩
   · rw[I.list_inj hx' hx]
     exact zV lx
   · have hlt:s.heap.objs.size≠b:=by
       simp only[yX,xX,or_false] at hb
       rcases hb with rfl | rfl
       · exact lt a1
       · obtain⟨o,q,_⟩:=a2;exact lt q
     rw[AM (b4Z hlt)]
     exact(hf b hb).1
 done:=by
   intro X hP hw hK hc i pins s σ H E I hf ⟨⟨old,a1⟩,a2⟩ hg
   subst hP hw hK
   obtain⟨xs,hx,hend⟩:=hg
   obtain⟨its,rx,px,_⟩:=I.list hx
   have e1:=rx.length
   refine wpAny_pyNext_enum_end (I.ok.hd hc) a1 a2 px.isList (by rw[c0V];simp;omega) fun h' hk=>⟨rfl,I.turnedL (t':=s.toks) (ch:=[e,it]) (fun b o hb q=>?_) (fun b hb=>(hf b hb).1) fun b hb=>let q:=hf b hb;⟨q.2.2.2.1,q.2.1,q.2.2.2.2.1,q.2.2.2.2.2⟩⟩
   simp only[yX,xX,or_false,not_or] at hb
   exact hk b o hb.2 q
 self:=fun _ _ _ _ _ st h=>let ⟨_,q⟩:=st.1;wpAny_pyIter_enum q h
section
variable {X:Cx}{K:Frg}
def mN (K:Frg) (ta:TA):TI:=fun σ H R=>ta σ H fun vs H1=>∃a,vs=[.ref a]/\(∃xs,SqL K H1 a xs)/\R (Ite K a) H1
theorem rG {a:Expr}{ta:TA}{p pos:Pos}{elts:List Expr}{kk:Nat}{tpos:Pos}(hg:Gl X "enumerate") (hm:X.mg "enumerate"=none) (ha:PA X [a] ta) (hs:starEach [a] X.env=[(false,eval a X.env)]:=by rfl) :
   PI X (.Tuple elts kk tpos) (.Call (.Name "enumerate" p) [a] [] pos) (mN X.K ta):=by
 intro pins s σ H R I h
 refine Call_ (GZ I hg hm boot_enumerate (xH (thn (ha pos pins s σ H _ I h) fun us s1 ⟨vs,H1,I1,r1,q1⟩=>?_) hs rfl))
 obtain⟨l,e,⟨xs,hx⟩,q⟩:=q1
 subst e
 obtain⟨u,rfl,ru⟩:=F6 r1
 cases ru
 obtain⟨its,rx,px,_⟩:=I1.list hx
 refine call_enumerate_list px.isList fun h' b1 b2 b3 hk=>?_
 refine wpAny_pyIter_enum (s:={ s1 with heap:=h' }) b1 ?_
 refine⟨s1.heap.objs.size+1,[s1.heap.objs.size+1,s1.heap.objs.size],_,_,H1,rfl,I1.kept (t':=s1.toks) hk,iK (s1.heap.objs.size+1) s1.heap.objs.size l (Nat.succ_ne_self _),⟨⟨_,b1⟩,b2⟩,fun b hb=>?_,q⟩
 have hle:s1.heap.objs.size<=b:=by
   simp only[yX,xX,or_false] at hb
   rcases hb with rfl | rfl
   · exact a6X _ _
   · exact zR _
 exact I1.fpOk hle (I1.hok.fresh hle)
theorem A0d {a:Expr}{ta:TA}{p pos:Pos}{elts:List Expr}{kk:Nat}{tpos:Pos}(h:X.K=K) (hg:Gl X "enumerate") (hm:X.mg "enumerate"=none) (ha:PA X [a] ta) (hs:starEach [a] X.env=[(false,eval a X.env)]:=by rfl) :
   PI X (.Tuple elts kk tpos) (.Call (.Name "enumerate" p) [a] [] pos) (mN K ta):=h▸rG hg hm ha hs
end
end L2
namespace DL
open PySem PySem.Spec L2
section
variable {K:Frg}{M:Own}{ρ:List (Option DS)}{QI:List PyData->Own->Prop}
def G5 (as:List PyData):List PyData:=as.zipIdx.map fun p=>.tuple [.int (p.2:Nat),p.1]
theorem rH {ta:TA}(h:DA K ta ρ M fun xs M1=>∃as,xs=[.d (.list as)]/\QI (G5 as) M1):DI K (mN K ta) ρ M QI:=fun σ H R Rl k=>
 h σ H _ Rl fun vs H1 xs M1 o1 s1 t1 ⟨as,e,q⟩=>by
   subst e
   obtain⟨v,r,rfl,h1,h3⟩:=s1
   cases h3
   unfold SI DV at h1
   obtain⟨a,va,rfl,hl,hd⟩:=h1
   have hlen:(G5 as).length=as.length:=by unfold G5;rw[zX,b8Q]
   refine⟨a,rfl,⟨va,hl.sq⟩,k _ (G5 as) H1 M1 o1 t1 ⟨fun i H' M' hi oa st=>?_,fun H' M' oa st=>?_,fun i H' M' x H2 oa st hi y=>?_⟩ q⟩
   · rw[hlen] at hi
     exact⟨va,(hl.grow st.grow).sq,by rw[hd.length];omega⟩
   · refine⟨va,(hl.grow st.grow).sq,?_⟩
     rw[hlen,hd.length];omega
   · obtain⟨p,xa,hp,rfl,rfl,hy⟩:=y
     have e1:=hy va (hl.grow st.grow).sq
     obtain⟨da,f1,f2⟩:=hd.get e1
     have gg:Grow K M'.W M'.W H' (upd H' p (.tup [.int (i:Nat),xa])):=AW _ hp
     refine⟨oa.new hp,⟨gg⟩,.tuple [.int (i:Nat),da],?_,?_⟩
     · unfold G5
       rw[zF,List.getElem?_zipIdx,f1]
       simp
     · unfold DV
       exact⟨p,_,rfl,.inl ⟨fun w=>w (oa.none hp),.inl AK⟩,DVs.cons (by unfold DV;rfl) (DVs.cons ((f2.grow st.grow).grow gg) DVs.nil)⟩
end
end DL
namespace L2
open PySem PySem.Spec PyProof.Rows
section
variable {X:Cx}
def iL (K:Frg) (neg:Bool):R2:=fun x y H Q=>∃(W:Addr->Prop) (d:PyData) (ds:List PyData),DV K H W d x/\zH d=true/\((DV K H W (.list ds) y/\zH (.list ds)=true)∨(DV K H W (.tuple ds) y/\zH (.tuple ds)=true)) /\
 Q (.bl (if neg then !(ds.any fun e=>a0X e d) else ds.any fun e=>a0X e d)) H
theorem WI {A:Around}{d:PyData}{ds:List PyData}(hu:A.units+64 < cLine) (h:a6J ds+1<=64):A.units+1+min (a6J ds) d.depth < cLine:=by
 have:=Nat.min_le_left (a6J ds) d.depth
 omega
theorem wR (hu:X.A.units+64 < cLine):OpR X (compareOp .In) (iL X.K false):=by
 intro pins s σ H x y v u Q I rx ry h
 obtain⟨W,d,ds,h1,s1,⟨h2,s2⟩ | ⟨h2,s2⟩,q⟩:=h
 all_goals
   obtain⟨as,r1⟩:=h1.reads I (zG s1) rx
   obtain⟨bs,r2⟩:=h2.reads I (zG s2) ry
   have dep:=PySem.SeqAt.depth_of_shaped s2
 · exact PySem.SeqAt.in_list_reads r2 r1 (zG s2) (zG s1) (WI hu dep) ⟨.bl _,H,I,rfl,q⟩
 · exact PySem.SeqAt.in_tuple_reads r2 r1 (zG s2) (zG s1) (WI hu dep) ⟨.bl _,H,I,rfl,q⟩
theorem iM (hu:X.A.units+64 < cLine):OpR X (compareOp .NotIn) (iL X.K true):=by
 intro pins s σ H x y v u Q I rx ry h
 obtain⟨W,d,ds,h1,s1,⟨h2,s2⟩ | ⟨h2,s2⟩,q⟩:=h
 all_goals
   obtain⟨as,r1⟩:=h1.reads I (zG s1) rx
   obtain⟨bs,r2⟩:=h2.reads I (zG s2) ry
   have dep:=PySem.SeqAt.depth_of_shaped s2
 · exact PySem.SeqAt.notIn_list_reads r2 r1 (zG s2) (zG s1) (WI hu dep) ⟨.bl _,H,I,rfl,q⟩
 · exact PySem.SeqAt.notIn_tuple_reads r2 r1 (zG s2) (zG s1) (WI hu dep) ⟨.bl _,H,I,rfl,q⟩
end
end L2
namespace DL
open PySem PySem.Spec L2
section
variable {X:Cx}{K:Frg}
theorem wS (h:X.K=K) (hu:X.A.units+64 < cLine):OpR X (compareOp .In) (iL K false):=h▸wR hu
theorem N5 (h:X.K=K) (hu:X.A.units+64 < cLine):OpR X (compareOp .NotIn) (iL K true):=h▸iM hu
end
section
variable {K:Frg}{M:Own}{ρ:List (Option DS)}{g:TG}{wi:TI}{Q:DS->Own->Prop}
theorem mO {neg:Bool}{d:PyData}{ds:List PyData}(s1:zH d=true) (s2:zH (.list ds)=true) (q:Q (.d (.bool (if neg then !(ds.any fun e=>a0X e d) else ds.any fun e=>a0X e d))) M):D2 K (iL K neg) (.d d) (.d (.list ds)) M Q:=fun H v u QQ oa h1 h2 k=>
 ⟨M.W,d,ds,h1,s1,.inl ⟨h2,s2⟩,k _ H _ M oa AI Step.refl q⟩
end
end DL
namespace DL
open PySem PySem.Spec L2
def ED:List Str->List Str->List Deed->Prop
 | _,_,[]=>True
 | so,sp,D::r=>BB so D=none/\(∀n,D.made=some n->sp.head?=some n)/\D.real/\ED (B4 so D) (C8 sp D) r
def L8:List Str->List Str->List Deed->List Str×List Str
 | so,sp,[]=>(so,sp)
 | so,sp,D::r=>L8 (B4 so D) (C8 sp D) r
theorem ME:∀{Ds:List Deed}{so sp so' sp':List Str}{D:Deed},ED so sp Ds->L8 so sp Ds=(so',sp')->BB so' D=none->(∀n,D.made=some n->sp'.head?=some n)->D.real->ED so sp (Ds++[D])/\L8 so sp (Ds++[D])=(B4 so' D,C8 sp' D)
 | [],so,sp,so',sp',D,_,e,h1,h2,h3=>by
   cases e
   exact⟨⟨h1,h2,h3,trivial⟩,rfl⟩
 | F::r,so,sp,so',sp',D,h,e,h1,h2,h3=>by
   obtain⟨g1,g2⟩:=ME (Ds:=r) h.2.2.2 e h1 h2 h3
   exact⟨⟨h.1,h.2.1,h.2.2.1,g1⟩,g2⟩
def Deed.must (D:Deed):List Str:=D.names.filter fun n=>decide (¬D.made=some n)
theorem eQ (D:Deed):YV D.d=D.must:=by
 unfold YV Deed.must
 rw[YT]
 apply b3V
 intro n _
 rw[QT]
 cases h:D.made with
 | none=>rfl
 | some x=>
   show(!a0X (.str n) (.str x))=decide (¬some x=some n)
   rw[C7]
   by_cases e:n=x
   · subst e;simp
   · have:¬x=n:=fun q=>e q.symm
     simp[e,this]
def mkN (Ds:List Deed) (j:Nat):Option Str:=(Ds[j]?).bind Deed.made
def GM (Ds:List Deed) (k:Nat):List Str:=match Ds[k]? with | some D=>D.must | none=>[]
structure FreshD (Ds:List Deed):Prop where
 one:∀i j x,mkN Ds i=some x->mkN Ds j=some x->i=j
 bef:∀j k x,mkN Ds j=some x->x∈GM Ds k->j < k
theorem FT (sp:List Str) (D:Deed):(C8 sp D).Sublist sp:=by
 unfold C8
 split
 · exact List.drop_sublist _ _
 · exact a1V _
theorem OU:∀(Ds:List Deed) (so sp:List Str),ED so sp Ds->(so++sp).Nodup->(∀j x,mkN Ds j=some x->x∈sp)/\FreshD Ds
 | [],so,sp,_,_=>⟨fun j x h=>by simp[mkN] at h,fun i j x h=>by simp[mkN] at h,fun j k x h=>by simp[mkN] at h⟩
 | D::r,so,sp,h,nd=>by
   obtain⟨h1,h2,_,h3⟩:=h
   have nd2:(B4 so D++C8 sp D).Nodup:=nd.sublist (FS h2)
   obtain⟨i1,i2⟩:=OU r _ _ h3 nd2
   have sub:=(FT sp D).subset
   have m0:∀x,mkN (D::r) 0=some x->D.made=some x:=fun x h=>h
   have in0:∀x,D.made=some x->x∈sp:=fun x e=>List.mem_of_mem_head? (h2 x e)
   have all:∀j x,mkN (D::r) j=some x->x∈sp:=fun j x e=>by
     cases j with
     | zero=>exact in0 x e
     | succ j=>exact sub (i1 j x e)
   have dis:∀x,x∈so->x∈sp->False:=fun x a b=>(List.nodup_append.mp nd).2.2 x a x b rfl
   refine⟨all,fun i j x e1 e2=>?_,fun j k x e1 e2=>?_⟩
   · have two:∀j,D.made=some x->mkN r j=some x->False:=fun j a b=>by
       have q1:=i1 j x b
       have q2:=h2 x a
       unfold C8 at q1
       rw[a] at q1
       dsimp only at q1
       have nsp:sp.Nodup:=(List.nodup_append.mp nd).2.1
       cases sp with
       | nil=>simp at q2
       | cons y ys=>
         have:y=x:=by simpa using q2
         subst this
         exact(xV.mp nsp).1 (by simpa using q1)
     cases i with
     | zero=>
       cases j with
       | zero=>rfl
       | succ j=>exact(two j e1 e2).elim
     | succ i=>
       cases j with
       | zero=>exact(two i e2 e1).elim
       | succ j=>rw[i2.one i j x e1 e2]
   · cases k with
     | zero=>
       have hm:x∈D.must:=e2
       obtain⟨a,b⟩:=yL.mp hm
       have b':¬D.made=some x:=of_decide_eq_true b
       exact(dis x (J1 h1 a b') (all j x e1)).elim
     | succ k=>
       cases j with
       | zero=>exact Nat.succ_pos _
       | succ j=>exact Nat.succ_lt_succ (i2.bef j k x e1 e2)
theorem QV:∀{l1 l2:List Int},l1.Pairwise (· < ·)->l2.Pairwise (· < ·)->(∀a,a∈l1↔a∈l2)->l1=l2
 | [],[],_,_,_=>rfl
 | [],b::r,_,_,h=>absurd ((h b).mpr (by simp)) (by simp)
 | a::r,[],_,_,h=>absurd ((h a).mp (by simp)) (by simp)
 | a::r,b::s,h1,h2,h=>by
   rw[a7W] at h1 h2
   have e:a=b:=by
     rcases yX.mp ((h a).mp (by simp)) with q | q
     · exact q
     · rcases yX.mp ((h b).mpr (by simp)) with q2 | q2
       · exact q2.symm
       · have:=h1.1 b q2;have:=h2.1 a q;omega
   subst e
   rw[QV h1.2 h2.2 fun x=>?_]
   constructor
   · intro hx
     rcases yX.mp ((h x).mp (yV _ hx)) with q | q
     · have:=h1.1 x hx;omega
     · exact q
   · intro hx
     rcases yX.mp ((h x).mpr (yV _ hx)) with q | q
     · have:=h2.1 x hx;omega
     · exact q
theorem mP {l:List Int}(h:l.Pairwise (·<=·)) (nd:l.Nodup):l.Pairwise (· < ·):=by
 have:=h.and nd
 exact this.imp fun {a b} q=>by obtain⟨q1,q2⟩:=q;omega
def EY (l:List Nat):List Int:=l.map fun j:Nat=>(j:Int)
theorem N6 {l:List Nat}(h:l.Pairwise (· < ·)):(EY l).Pairwise (· < ·):=by
 unfold EY;rw[a3V];exact h.imp fun {a b} q=>by omega
theorem CQ {l:List Nat}{x:Int}:x∈EY l↔∃j,j∈l/\x=(j:Int):=by
 unfold EY
 rw[zL]
 constructor
 · rintro⟨j,a,b⟩;exact⟨j,a,b.symm⟩
 · rintro⟨j,a,b⟩;exact⟨j,a,b.symm⟩
theorem iN (n:Nat):(a1Q n).Pairwise (· < ·):=List.pairwise_lt_range
def SJ (Ds:List Deed) (k j:Nat):Bool:=match mkN Ds j with | some x=>decide (x∈GM Ds k) | none=>false
def CF (Ds:List Deed) (k:Nat):List Nat:=(a1Q k).filter fun j=>SJ Ds k j
theorem mQ (Ds:List Deed) (k:Nat):(CF Ds k).Pairwise (· < ·):=(iN k).filter _
theorem EH {Ds:List Deed}{k j:Nat}(h:j∈CF Ds k):j < k:=List.mem_range.mp (yL.mp h).1
def mkL (Ds:List Deed) (o:Nat):List (Str×PyData):=match Ds with
 | []=>[]
 | D::r=>(match D.made with | some x=>[(x,a4W (o:Nat))] | none=>[])++mkL r (o+1)
theorem N7:∀(Ds:List Deed) (o:Nat),(∀i j x,mkN Ds i=some x->mkN Ds j=some x->i=j)->∀x,B1 (mkL Ds o) x=none/\(∀j,¬mkN Ds j=some x)∨∃j,mkN Ds j=some x/\B1 (mkL Ds o) x=some (.int ((o+j:Nat):Int))
 | [],o,_,x=>.inl ⟨rfl,fun j=>by simp[mkN]⟩
 | D::r,o,h,x=>by
   have ih:=N7 r (o+1) (fun i j y a b=>Nat.succ.inj (h (i+1) (j+1) y a b)) x
   cases hm:D.made with
   | none=>
     have e:mkL (D::r) o=mkL r (o+1):=by rw[mkL,hm];rfl
     rw[e]
     rcases ih with ⟨a,b⟩ | ⟨j,a,b⟩
     · refine .inl ⟨a,fun j q=>?_⟩
       cases j with
       | zero=>have:D.made=some x:=q;rw[hm] at this;cases this
       | succ j=>exact b j q
     · exact .inr ⟨j+1,a,by rw[b];congr 2;omega⟩
   | some y=>
     have e:mkL (D::r) o=(y,a4W (o:Nat))::mkL r (o+1):=by rw[mkL,hm];rfl
     rw[e]
     by_cases q:y=x
     · subst q
       exact .inr ⟨0,hm,by simp[B1]⟩
     · rcases ih with ⟨a,b⟩ | ⟨j,a,b⟩
       · refine .inl ⟨by simp[B1,q,a],fun j p=>?_⟩
         cases j with
         | zero=>have:D.made=some x:=p;rw[hm] at this;exact q (Option.some.inj this)
         | succ j=>exact b j p
       · exact .inr ⟨j+1,a,by simp only[B1];rw[if_neg q,b];congr 2;omega⟩
theorem Z6:∀(Ds:List Deed) (o:Nat) (x:Str),x∈(mkL Ds o).map (·.1)->∃j,mkN Ds j=some x
 | [],o,x,h=>by simp[mkL] at h
 | D::r,o,x,h=>by
   rw[mkL,xI] at h
   rcases yW.mp h with h | h
   · cases hm:D.made with
     | none=>rw[hm] at h;simp at h
     | some y=>
       rw[hm] at h
       have:x=y:=by simpa using h
       subst this;exact⟨0,hm⟩
   · obtain⟨j,e⟩:=Z6 r (o+1) x h
     exact⟨j+1,e⟩
theorem V2:∀(Ds:List Deed) (o:Nat),(∀i j x,mkN Ds i=some x->mkN Ds j=some x->i=j)->((mkL Ds o).map (·.1)).Nodup
 | [],o,_=>by simp[mkL]
 | D::r,o,h=>by
   have ih:=V2 r (o+1) fun i j y a b=>Nat.succ.inj (h (i+1) (j+1) y a b)
   cases hm:D.made with
   | none=>rw[mkL,hm];exact ih
   | some y=>
     rw[mkL,hm]
     show(y::(mkL r (o+1)).map (·.1)).Nodup
     rw[xV]
     refine⟨fun hy=>?_,ih⟩
     obtain⟨j,e⟩:=Z6 r (o+1) y hy
     have:=h 0 (j+1) y hm e
     omega
theorem mR {Ds:List Deed}(hf:FreshD Ds) {k:Nat}{D:Deed}(hD:Ds[k]?=some D) (nd:D.must.Nodup) {L ss:List Int}(hL:L=(D.must.filter fun n=>(B1 (mkL Ds 0) n).isSome).map fun n=>match B1 (mkL Ds 0) n with | some (.int i)=>i | _=>0) (hp:ss.Perm L) (hs:ss.Pairwise (·<=·)):ss=EY (CF Ds k):=by
 have val:∀n j,mkN Ds j=some n->B1 (mkL Ds 0) n=some (.int (j:Int)):=fun n j e=>by
   rcases N7 Ds 0 hf.one n with ⟨_,b⟩ | ⟨i,a,b⟩
   · exact absurd e (b j)
   · rw[hf.one j i n e a,b,Nat.zero_add]
 have ex:∀n,(B1 (mkL Ds 0) n).isSome=true->∃j,mkN Ds j=some n:=fun n e=>by
   rcases N7 Ds 0 hf.one n with ⟨a,_⟩ | ⟨i,a,_⟩
   · rw[a] at e;cases e
   · exact⟨i,a⟩
 have hm:GM Ds k=D.must:=by unfold GM;rw[hD]
 have memL:∀x,x∈L↔∃j,j∈CF Ds k/\x=(j:Int):=fun x=>by
   rw[hL,zL]
   constructor
   · rintro⟨n,hn,rfl⟩
     obtain⟨h1,h2⟩:=yL.mp hn
     obtain⟨j,e⟩:=ex n h2
     refine⟨j,?_,by rw[val n j e]⟩
     unfold CF
     refine yL.mpr ⟨List.mem_range.mpr (hf.bef j k n e (by rw[hm];exact h1)),?_⟩
     unfold SJ
     rw[e,hm];exact decide_eq_true h1
   · rintro⟨j,hj,rfl⟩
     obtain⟨_,h2⟩:=yL.mp hj
     unfold SJ at h2
     cases e:mkN Ds j with
     | none=>rw[e] at h2;cases h2
     | some n=>
       rw[e,hm] at h2
       refine⟨n,yL.mpr ⟨of_decide_eq_true h2,by rw[val n j e];rfl⟩,by rw[val n j e]⟩
 have ndL:L.Nodup:=by
   rw[hL]
   have inj:∀a∈D.must.filter (fun n=>(B1 (mkL Ds 0) n).isSome),∀b∈D.must.filter (fun n=>(B1 (mkL Ds 0) n).isSome),(match B1 (mkL Ds 0) a with | some (.int i)=>i | _=>0)=(match B1 (mkL Ds 0) b with | some (.int i)=>i | _=>0)->a=b:=fun a ha b hb e=>by
     obtain⟨i,ei⟩:=ex a (yL.mp ha).2
     obtain⟨j,ej⟩:=ex b (yL.mp hb).2
     rw[val a i ei,val b j ej] at e
     have:(i:Int)=(j:Int):=e
     have:i=j:=by omega
     subst this
     rw[ei] at ej
     exact Option.some.inj ej
   unfold List.Nodup
   rw[a3V]
   exact((nd.sublist a3K).imp_of_mem fun {a b} ha hb q e=>q (inj a ha b hb e))
 refine QV (mP hs (hp.nodup_iff.mpr ndL)) (N6 (mQ Ds k)) fun x=>?_
 rw[hp.mem_iff,memL,CQ]
end DL
namespace DL
open PySem PySem.Spec L2
abbrev EL:=List (Nat×List Nat)
def K3 (E:EL) (m:Nat) (c:List Nat):EL:=if (E.any fun t=>decide (t.1=m))=true then E.map (fun t=>if t.1=m then (t.1,c) else t) else E++[(m,c)]
def F7:EL->Nat->Option (List Nat)
 | [],_=>none
 | t::r,k=>if t.1=k then some t.2 else F7 r k
def chD (c:List Nat):PyData:=.tuple ((EY c).map .int)
def cvE (E:EL):List (Int×PyData):=E.map fun t=>((t.1:Int),chD t.2)
theorem mS (m:Nat):∀E:EL,((cvE E).any fun t=>decide (t.1=(m:Int)))=E.any fun t=>decide (t.1=m)
 | []=>rfl
 | t::r=>by
   show(decide ((t.1:Int)=(m:Int))||_)=(decide (t.1=m)||_)
   rw[show decide ((t.1:Int)=(m:Int))=decide (t.1=m) by rw[a3Z,decide_eq_true_iff,decide_eq_true_iff];omega]
   congr 1
   exact mS m r
theorem mT (E:EL) (m:Nat) (c:List Nat):JK (cvE E) (m:Int) (chD c)=cvE (K3 E m c):=by
 unfold JK K3
 rw[mS]
 by_cases h:(E.any fun t=>decide (t.1=m))=true
 · rw[if_pos h,if_pos h]
   unfold cvE
   rw[zD,zD]
   apply yM
   intro t _
   show(if (t.1:Int)=(m:Int) then ((t.1:Int),chD c) else ((t.1:Int),chD t.2))=_
   by_cases e:t.1=m
   · rw[if_pos (by omega)]
     show _=(((if t.1=m then (t.1,c) else t).1:Int),chD (if t.1=m then (t.1,c) else t).2)
     rw[if_pos e]
   · rw[if_neg (by omega)]
     show _=(((if t.1=m then (t.1,c) else t).1:Int),chD (if t.1=m then (t.1,c) else t).2)
     rw[if_neg e]
 · rw[if_neg h,if_neg h]
   unfold cvE
   rw[xI];rfl
theorem QW (m:Nat):∀E:EL,HN (cvE E) (m:Int)=(F7 E m).map chD
 | []=>rfl
 | t::r=>by
   show(if (t.1:Int)=(m:Int) then some (chD t.2) else HN (cvE r) (m:Int))=(if t.1=m then some t.2 else F7 r m).map chD
   by_cases e:t.1=m
   · rw[if_pos (by omega),if_pos e];rfl
   · rw[if_neg (by omega),if_neg e];exact QW m r
theorem HP:∀{E:EL}{m:Nat},(F7 E m).isSome=true↔m∈E.map (·.1)
 | [],m=>by simp[F7]
 | t::r,m=>by
   unfold F7
   by_cases e:t.1=m
   · rw[if_pos e];simp[e]
   · rw[if_neg e,HP (E:=r)]
     simp only[zI,yX]
     constructor
     · exact .inr
     · rintro (q | q)
       · exact absurd q.symm e
       · exact q
theorem SK:∀{E:EL}{m:Nat}{c:List Nat},F7 E m=some c->(m,c)∈E
 | t::r,m,c,h=>by
   unfold F7 at h
   by_cases e:t.1=m
   · rw[if_pos e] at h
     have:t.2=c:=Option.some.inj h
     rw[← this,← e];simp
   · rw[if_neg e] at h;exact yV _ (SK h)
theorem eR {E:EL}{m:Nat}:(E.any fun t=>decide (t.1=m))=true↔m∈E.map (·.1):=by
 rw[a5V,zL]
 constructor
 · rintro⟨t,a,b⟩;exact⟨t,a,of_decide_eq_true b⟩
 · rintro⟨t,a,b⟩;exact⟨t,a,decide_eq_true b⟩
theorem SL (E:EL) (m:Nat) (c:List Nat):(K3 E m c).map (·.1)=if m∈E.map (·.1) then E.map (·.1) else E.map (·.1)++[m]:=by
 unfold K3
 by_cases h:m∈E.map (·.1)
 · rw[if_pos (eR.mpr h),if_pos h,zD]
   apply yM
   intro t _
   show(if t.1=m then (t.1,c) else t).1=t.1
   split <;> rfl
 · rw[if_neg fun q=>h (eR.mp q),if_neg h,xI];rfl
structure ChainN (Ds:List Deed) (ns c:List Nat) (m:Nat):Prop where
 last:c.getLast?=some m
 head:∃h,c.head?=some h/\h∈ns
 step:∀i a b,c[i]?=some a->c[i+1]?=some b->a∈CF Ds b
 lt:∀x∈c,x < Ds.length
 two:m∈ns∨2<=c.length
structure GoodE (Ds:List Deed) (ns:List Nat) (E:EL):Prop where
 nd:(E.map (·.1)).Nodup
 ch:∀t∈E,ChainN Ds ns t.2 t.1
theorem Z7 {Ds:List Deed}{ns:List Nat}{E:EL}{m:Nat}{c:List Nat}(h:GoodE Ds ns E) (hc:ChainN Ds ns c m):GoodE Ds ns (K3 E m c):=by
 refine⟨?_,fun t ht=>?_⟩
 · rw[SL]
   split
   · exact h.nd
   · rename_i hn
     rw[b9J]
     refine⟨h.nd,by simp,fun a ha b hb e=>?_⟩
     rw[List.mem_singleton.mp hb] at e
     exact hn (e▸ha)
 · unfold K3 at ht
   split at ht
   · obtain⟨u,hu,rfl⟩:=zL.mp ht
     split
     · rename_i e
       show ChainN Ds ns c u.1
       rw[e];exact hc
     · exact h.ch u hu
   · rcases yW.mp ht with q | q
     · exact h.ch t q
     · rw[List.mem_singleton.mp q];exact hc
theorem iO {Ds:List Deed}{ns:List Nat}{m:Nat}(hm:m∈ns) (hl:m < Ds.length):ChainN Ds ns [m] m:=
 ⟨rfl,⟨m,rfl,hm⟩,fun i a b h1 h2=>by simp at h2,fun x hx=>by rw[List.mem_singleton.mp hx];exact hl,.inl hm⟩
theorem bZ {Ds:List Deed}{ns c:List Nat}{g m:Nat}(h:ChainN Ds ns c g) (hg:g∈CF Ds m) (hl:m < Ds.length):ChainN Ds ns (c++[m]) m:=by
 have hne:c≠[]:=by intro e;have:=h.last;rw[e] at this;cases this
 refine⟨List.getLast?_concat,?_,fun i a b h1 h2=>?_,fun x hx=>?_,.inr ?_⟩
 · obtain⟨q,e1,e2⟩:=h.head
   refine⟨q,?_,e2⟩
   cases c with
   | nil=>exact absurd rfl hne
   | cons y ys=>exact e1
 · by_cases hi:i+1 < c.length
   · rw[yQ (by omega)] at h1
     rw[yQ hi] at h2
     exact h.step i a b h1 h2
   · by_cases hj:i+1=c.length
     · rw[yP (by omega),show i+1 - c.length=0 by omega] at h2
       rw[yQ (by omega)] at h1
       have hb:b=m:=by simpa using h2.symm
       subst hb
       have ha:c.getLast?=some a:=by rw[List.getLast?_eq_getElem?,show c.length - 1=i by omega];exact h1
       rw[h.last] at ha
       cases ha
       exact hg
     · rw[a0V (by rw[yY,List.length_singleton];omega)] at h2;cases h2
 · rcases yW.mp hx with q | q
   · exact h.lt x q
   · rw[List.mem_singleton.mp q];exact hl
 · have:=List.length_pos_iff.mpr hne
   rw[yY,List.length_singleton];omega
def e0 (ns:List Nat):EL:=ns.foldl (fun E m=>K3 E m [m]) []
def EZ (Ds:List Deed) (E:EL) (m:Nat):List Nat:=(CF Ds m).filter fun j=>(F7 E j).isSome
def J2 (Ds:List Deed) (E:EL) (m:Nat):EL:=match EZ Ds E m with
 | g::_=>if (F7 E m).isNone then K3 E m ((F7 E g).getD []++[m]) else E
 | []=>E
def BI (Ds:List Deed) (ns:List Nat) (k:Nat):EL:=(a1Q k).foldl (J2 Ds) (e0 ns)
theorem SM (Ds:List Deed) (ns:List Nat) (k:Nat):BI Ds ns (k+1)=J2 Ds (BI Ds ns k) k:=by
 unfold BI;rw[List.range_succ,b9K];rfl
theorem mU {Ds:List Deed}{ns:List Nat}(hn:∀m∈ns,m < Ds.length):∀(l:List Nat) (E:EL),(∀m∈l,m∈ns)->GoodE Ds ns E->GoodE Ds ns (l.foldl (fun E m=>K3 E m [m]) E)/\∀x,x∈(l.foldl (fun E m=>K3 E m [m]) E).map (·.1)↔x∈E.map (·.1)∨x∈l
 | [],E,_,h=>⟨h,fun x=>by simp⟩
 | m::r,E,hl,h=>by
   have hm:=hl m (by simp)
   obtain⟨g1,g2⟩:=mU hn r (K3 E m [m]) (fun x hx=>hl x (yV _ hx)) (Z7 h (iO hm (hn m hm)))
   refine⟨g1,fun x=>?_⟩
   show x∈(r.foldl (fun E m=>K3 E m [m]) (K3 E m [m])).map (·.1)↔_
   rw[g2,SL]
   by_cases q:m∈E.map (·.1)
   · rw[if_pos q]
     constructor
     · rintro (a | a)
       · exact .inl a
       · exact .inr (yV _ a)
     · rintro (a | a)
       · exact .inl a
       · rcases yX.mp a with rfl | a
         · exact .inl q
         · exact .inr a
   · rw[if_neg q,yW,a3Q,yX,or_assoc]
def AN (Ds:List Deed) (ns:List Nat):Nat->List Nat
 | 0=>[]
 | k+1=>if decide (k∈ns)||(CF Ds k).any (fun j=>decide (j∈AN Ds ns k)) then AN Ds ns k++[k] else AN Ds ns k
theorem HQ (Ds:List Deed) (ns:List Nat):∀k,∀x∈AN Ds ns k,x < k
 | 0,x,h=>by simp[AN] at h
 | k+1,x,h=>by
   unfold AN at h
   split at h
   · rcases yW.mp h with q | q
     · have:=HQ Ds ns k x q;omega
     · rw[List.mem_singleton.mp q];exact Nat.lt_succ_self _
   · have:=HQ Ds ns k x h;omega
theorem KO (Ds:List Deed) (ns:List Nat):∀k,(AN Ds ns k).Pairwise (· < ·)
 | 0=>by simp[AN]
 | k+1=>by
   unfold AN
   split
   · rw[List.pairwise_append]
     exact⟨KO Ds ns k,by simp,fun a ha b hb=>by rw[List.mem_singleton.mp hb];exact HQ Ds ns k a ha⟩
   · exact KO Ds ns k
theorem FK {Ds:List Deed}{ns:List Nat}:∀{k x:Nat},x < k->x∈ns->x∈AN Ds ns k
 | k+1,x,h,hx=>by
   unfold AN
   by_cases e:x=k
   · subst e
     rw[decide_eq_true hx,Bool.true_or,if_pos rfl];simp
   · have:=FK (Ds:=Ds) (k:=k) (by omega) hx
     split
     · exact zA _ this
     · exact this
theorem N8 {Ds:List Deed}{ns:List Nat}(hn:∀m∈ns,m < Ds.length):∀k,k<=Ds.length->GoodE Ds ns (BI Ds ns k)/\∀x,x∈(BI Ds ns k).map (·.1)↔x∈ns∨x∈AN Ds ns k
 | 0,_=>by
   obtain⟨g1,g2⟩:=mU hn ns [] (fun _ h=>h) ⟨by simp,by simp⟩
   refine⟨g1,fun x=>?_⟩
   show x∈(ns.foldl (fun E m=>K3 E m [m]) []).map (·.1)↔_
   rw[g2];simp[AN]
 | k+1,hk=>by
   obtain⟨g1,g2⟩:=N8 hn k (by omega)
   rw[SM]
   have hany:(EZ Ds (BI Ds ns k) k≠[])↔(CF Ds k).any (fun j=>decide (j∈AN Ds ns k))=true:=by
     rw[a5V]
     constructor
     · intro h
       cases hg:EZ Ds (BI Ds ns k) k with
       | nil=>exact absurd hg h
       | cons g r=>
         have hm:g∈EZ Ds (BI Ds ns k) k:=by rw[hg];simp
         obtain⟨a,b⟩:=yL.mp hm
         refine⟨g,a,decide_eq_true ?_⟩
         rcases (g2 g).mp (HP.mp b) with q | q
         · exact FK (EH a) q
         · exact q
     · rintro⟨j,a,b⟩ e
       have:j∈EZ Ds (BI Ds ns k) k:=yL.mpr ⟨a,HP.mpr ((g2 j).mpr (.inr (of_decide_eq_true b)))⟩
       rw[e] at this;cases this
   cases hg:EZ Ds (BI Ds ns k) k with
   | nil=>
     have hna:(CF Ds k).any (fun j=>decide (j∈AN Ds ns k))=false:=by
       cases q:(CF Ds k).any (fun j=>decide (j∈AN Ds ns k)) with
       | false=>rfl
       | true=>exact absurd hg (hany.mpr q)
     have e1:J2 Ds (BI Ds ns k) k=BI Ds ns k:=by unfold J2;rw[hg]
     rw[e1]
     refine⟨g1,fun x=>?_⟩
     rw[g2,AN,hna,Bool.or_false]
     by_cases q:k∈ns
     · rw[decide_eq_true q,if_pos rfl,yW,a3Q]
       constructor
       · rintro (a | a)
         · exact .inl a
         · exact .inr (.inl a)
       · rintro (a | a | a)
         · exact .inl a
         · exact .inr a
         · rw[a];exact .inl q
     · rw[decide_eq_false q,if_neg nft]
   | cons g r=>
     have hya:(CF Ds k).any (fun j=>decide (j∈AN Ds ns k))=true:=hany.mp (by rw[hg];simp)
     have hgm:g∈EZ Ds (BI Ds ns k) k:=by rw[hg];simp
     obtain⟨ga,gb⟩:=yL.mp hgm
     have e2:AN Ds ns (k+1)=AN Ds ns k++[k]:=by rw[AN,hya,Bool.or_true,if_pos rfl]
     by_cases hk2:(F7 (BI Ds ns k) k).isNone=true
     · have e1:J2 Ds (BI Ds ns k) k=K3 (BI Ds ns k) k ((F7 (BI Ds ns k) g).getD []++[k]):=by unfold J2;rw[hg];dsimp only;rw[if_pos hk2]
       rw[e1]
       obtain⟨c,hc⟩:=xY.mp gb
       have hch:=g1.ch _ (SK hc)
       rw[hc]
       refine⟨Z7 g1 (bZ hch ga (by omega)),fun x=>?_⟩
       rw[SL,e2]
       have nk:¬k∈(BI Ds ns k).map (·.1):=fun q=>by
         have:=HP.mpr q
         rw[Option.isSome_iff_ne_none] at this
         exact this (Option.isNone_iff_eq_none.mp hk2)
       rw[if_neg nk,yW,g2,yW,or_assoc]
     · have e1:J2 Ds (BI Ds ns k) k=BI Ds ns k:=by unfold J2;rw[hg];dsimp only;rw[if_neg hk2]
       rw[e1,e2]
       refine⟨g1,fun x=>?_⟩
       rw[g2,yW,a3Q]
       have hkk:k∈(BI Ds ns k).map (·.1):=HP.mp (by
         cases q:F7 (BI Ds ns k) k with
         | none=>rw[q] at hk2;exact absurd rfl hk2
         | some _=>rfl)
       constructor
       · rintro (a | a)
         · exact .inl a
         · exact .inr (.inl a)
       · rintro (a | a | a)
         · exact .inl a
         · exact .inr a
         · rw[a];exact(g2 k).mp hkk
theorem Z8 {Ds:List Deed}{ns:List Nat}(hn:∀m∈ns,m < Ds.length) {ss:List Int}(hp:ss.Perm ((cvE (BI Ds ns Ds.length)).map (·.1))) (hs:ss.Pairwise (·<=·)):ss=EY (AN Ds ns Ds.length):=by
 obtain⟨g1,g2⟩:=N8 hn Ds.length (zR _)
 have ek:(cvE (BI Ds ns Ds.length)).map (·.1)=EY ((BI Ds ns Ds.length).map (·.1)):=by unfold cvE EY;rw[zD,zD];rfl
 rw[ek] at hp
 have nd:(EY ((BI Ds ns Ds.length).map (·.1))).Nodup:=by
   unfold EY List.Nodup
   rw[a3V]
   exact g1.nd.imp fun {a b} q e=>q (by omega)
 refine QV (mP hs (hp.nodup_iff.mpr nd)) (N6 (KO Ds ns _)) fun x=>?_
 rw[hp.mem_iff,CQ,CQ]
 constructor
 · rintro⟨j,a,rfl⟩
   refine⟨j,?_,rfl⟩
   rcases (g2 j).mp a with q | q
   · exact FK (hn j q) q
   · exact q
 · rintro⟨j,a,rfl⟩
   exact⟨j,(g2 j).mpr (.inr a),rfl⟩
end DL
namespace DL
open PySem PySem.Spec L2
theorem OV:∀{ls ls':List (Str×Deed)},ls.map AU=ls'.map AU->ls=ls'
 | [],[],_=>rfl
 | [],_::_,h=>by simp at h
 | _::_,[],h=>by simp at h
 | a::r,b::s,h=>by
   simp only[zI,List.cons.injEq] at h
   obtain⟨h1,h2⟩:=h
   have h1:PyData.tuple [.str a.1,a.2.d] = .tuple [.str b.1,b.2.d]:=h1
   simp only[PyData.tuple.injEq,List.cons.injEq,PyData.str.injEq,and_true] at h1
   rw[OV h2]
   exact congrArg (·::s) (Prod.ext h1.1 (D4 h1.2))
theorem EE {w w':List Th}{ls ls':List (Str×Deed)}(h:AL w ls=AL w' ls'):ls=ls':=by
 unfold AL at h
 simp only[PyData.tuple.injEq,List.cons.injEq,and_true] at h
 exact OV h.2
abbrev dsL (ls:List (Str×Deed)):List Deed:=ls.map (·.2)
abbrev BC (ls:List (Str×Deed)):PyData:=.tuple (ls.map AU)
structure goodB (w:List Th) (ls:List (Str×Deed)):Prop where
 fresh:FreshD (dsL ls)
 real:∀l∈ls,l.2.real
 few:ls.length<=50
 hands:∀l∈ls,AH l.1
abbrev AG (ns:List Nat):List PyData:=(EY ns).map .int
def rJ (n:Nat) (d:PyData):Bool:=IG d 0 ((n:Int) - 1)
theorem mV {n m:Nat}(h:m < n):rJ n (.int (m:Int))=true:=by
 show(decide ((0:Int)<=(m:Int))&&decide ((m:Int)<=(n:Int) - 1))=true
 simp only[a0W,decide_eq_true_eq];omega
theorem BJ (ns:List Nat):(AG ns).length=ns.length:=by simp[EY]
theorem HR {a b:List Nat}(h:AG a=AG b):a=b:=by
 induction a generalizing b with
 | nil=>cases b with
   | nil=>rfl
   | cons y s=>have:=congrArg b2X h;rw[BJ,BJ] at this;cases this
 | cons x r ih=>cases b with
   | nil=>have:=congrArg b2X h;rw[BJ,BJ] at this;cases this
   | cons y s=>
     have h:a4W (x:Int)::AG r = .int (y:Int)::AG s:=h
     simp only[List.cons.injEq,PyData.int.injEq] at h
     rw[ih h.2,show x=y by omega]
theorem mW {n:Nat}{ns:List Nat}(h:∀m∈ns,m < n):∀d∈AG ns,rJ n d=true:=fun d hd=>by
 obtain⟨i,hi,rfl⟩:=zL.mp hd
 obtain⟨m,hm,rfl⟩:=CQ.mp hi
 exact mV (h m hm)
section
variable {M:Own}{Q:DS->Own->Prop}{w:List Th}{ls:List (Str×Deed)}
def HS:FSp:=⟨fun xs M=>∃(w:List Th) (ls:List (Str×Deed)),xs=[.d (AL w ls)]/\goodB w ls,fun xs M y M'=>∀(w:List Th) (ls:List (Str×Deed)),xs=[.d (AL w ls)]->∃p,M p=none/\y = .loc p/\M'=M.put p (.d (B0 (mkL (dsL ls) 0)))⟩
theorem PF (hg:goodB w ls) (q:∀p,M p=none->Q (.loc p) (M.put p (.d (B0 (mkL (dsL ls) 0))))):[DS.d (AL w ls)].length=1/\HS.pre [.d (AL w ls)] M/\∀x M',HS.post [.d (AL w ls)] M x M'->Q x M':=
 ⟨rfl,⟨w,ls,rfl,hg⟩,fun x M' h=>by obtain⟨p,hp,rfl,rfl⟩:=h w ls rfl;exact q p hp⟩
def DD:FSp:=⟨fun xs M=>∃(w:List Th) (ls:List (Str×Deed)) (d:PyData),xs=[.d (AL w ls),.d d],fun xs M y M'=>∀(w:List Th) (ls:List (Str×Deed)) (d:PyData),xs=[.d (AL w ls),.d d]->y = .d (.bool (rJ ls.length d))/\M'=M⟩
theorem SN {d:PyData}(q:Q (.d (.bool (rJ ls.length d))) M):[DS.d (AL w ls),.d d].length=2/\DD.pre [.d (AL w ls),.d d] M/\∀x M',DD.post [.d (AL w ls),.d d] M x M'->Q x M':=
 ⟨rfl,⟨w,ls,d,rfl⟩,fun x M' h=>by obtain⟨rfl,rfl⟩:=h w ls d rfl;exact q⟩
def N9:FSp:=⟨fun xs M=>∃(w:List Th) (ls:List (Str×Deed)) (k:Nat),xs=[.d (AL w ls),.d (.int k)]/\goodB w ls/\k < ls.length,fun xs M y M'=>∀(w:List Th) (ls:List (Str×Deed)) (k:Nat),xs=[.d (AL w ls),.d (.int k)]->y = .d (chD (CF (dsL ls) k))/\M'=M⟩
theorem c5 {k:Nat}(hg:goodB w ls) (hk:k < ls.length) (q:Q (.d (chD (CF (dsL ls) k))) M):[DS.d (AL w ls),.d (.int k)].length=2/\N9.pre [.d (AL w ls),.d (.int k)] M/\∀x M',N9.post [.d (AL w ls),.d (.int k)] M x M'->Q x M':=
 ⟨rfl,⟨w,ls,k,rfl,hg,hk⟩,fun x M' h=>by obtain⟨rfl,rfl⟩:=h w ls k rfl;exact q⟩
abbrev bsX (w:List Th) (ls:List (Str×Deed)) (ds:List PyData):List DS:=[.d (AL w ls),.d (.tuple ds)]
def wU (ls:List (Str×Deed)) (ns:List Nat):EL:=BI (dsL ls) ns (dsL ls).length
def c6 (ls:List (Str×Deed)) (ns:List Nat):List Nat:=AN (dsL ls) ns (dsL ls).length
theorem mX {w w':List Th}{ls ls':List (Str×Deed)}{ds ds':List PyData}(e:bsX w ls ds=bsX w' ls' ds'):ls=ls'/\ds=ds':=by
 simp only[List.cons.injEq,DS.d.injEq,PyData.tuple.injEq,and_true] at e
 exact⟨EE e.1,e.2⟩
def SB (f:List (Str×Deed)->List Nat->DS->Own->Own->Prop):FSp:=⟨fun xs M=>∃(w:List Th) (ls:List (Str×Deed)) (ns:List Nat),xs=bsX w ls (AG ns)/\goodB w ls/\ns.length<=60/\∀m∈ns,m < ls.length,fun xs M y M'=>∀(w:List Th) (ls:List (Str×Deed)) (ns:List Nat),xs=bsX w ls (AG ns)->f ls ns y M M'⟩
def mY (ls:List (Str×Deed)) (ns:List Nat) (y:DS) (M M':Own):Prop:=∃p,M p=none/\y = .loc p/\M'=M.put p (.d (BL (cvE (wU ls ns))))
def mZ (ls:List (Str×Deed)) (ns:List Nat) (y:DS) (M M':Own):Prop:=y = .d (chD (c6 ls ns))/\M'=M
theorem eT {f:List (Str×Deed)->List Nat->DS->Own->Own->Prop}{ns:List Nat}(hg:goodB w ls) (hl:ns.length<=60) (hn:∀m∈ns,m < ls.length) (q:∀y M',f ls ns y M M'->Q y M'):(bsX w ls (AG ns)).length=2/\(SB f).pre (bsX w ls (AG ns)) M/\∀x M',(SB f).post (bsX w ls (AG ns)) M x M'->Q x M':=
 ⟨rfl,⟨w,ls,ns,rfl,hg,hl,hn⟩,fun x M' h=>q x M' (h w ls ns rfl)⟩
end
def fEn:PyData->Str | .tuple [_,.str x]=>x | _=>a0Q ""
def wEn:PyData->PyData | .tuple [i,_]=>i | _=>.none
def cEn:PyData->Bool | .tuple [_,.none]=>false | _=>true
theorem eU:∀(Ds:List Deed) (o:Nat),((((Ds.map fun D=>GJ D.d).zipIdx o).map fun p=>PyData.tuple [.int (p.2:Nat),p.1]).filter cEn).map (fun d=>(fEn d,wEn d))=mkL Ds o
 | [],o=>rfl
 | D::r,o=>by
   have ih:=eU r (o+1)
   rw[zI,List.zipIdx_cons,zI,a7X]
   rw[QT]
   cases h:D.made with
   | none=>
     rw[mkL,h]
     show(if cEn (.tuple [.int (o:Nat),.none])=true then _ else _:List PyData).map _=_
     rw[show cEn (.tuple [.int (o:Nat),.none])=false from rfl,if_neg nft]
     exact ih
   | some x=>
     rw[mkL,h]
     show(if cEn (.tuple [.int (o:Nat),.str x])=true then _ else _:List PyData).map _=_
     rw[show cEn (.tuple [.int (o:Nat),.str x])=true from rfl,if_pos rfl,zI,ih]
     rfl
theorem c7 {D:Deed}(h:D.real):D.must.Nodup:=by
 unfold Deed.must
 refine List.Nodup.sublist a3K ?_
 have ha:=h.2.1
 cases D <;> first | (simp[Deed.names];done) | (simp only[Deed.names,xV,a3Q,xX,not_false_eq_true,List.nodup_nil,and_true];exact ha)
end DL
namespace DL
open PySem PySem.Spec L2
theorem KP {K:Frg}{M:Own}{Q:DS->Own->Prop}{neg:Bool}{d:PyData}{ds:List PyData}(s1:zH d=true) (s2:zH (.tuple ds)=true) (q:Q (.d (.bool (if neg then !(ds.any fun e=>a0X e d) else ds.any fun e=>a0X e d))) M):D2 K (iL K neg) (.d d) (.d (.tuple ds)) M Q:=fun H v u QQ oa h1 h2 k=>
 ⟨M.W,d,ds,h1,s1,.inr ⟨h2,s2⟩,k _ H _ M oa AI Step.refl q⟩
theorem CU (ns:List Nat):zH (.tuple (AG ns))=true:=by
 refine FQ (bB fun d hd=>?_) ?_
 · obtain⟨y,h1,rfl⟩:=zL.mp hd
   rfl
 · have:a6J (AG ns)<=0:=bC fun d hd=>by
     obtain⟨y,h1,rfl⟩:=zL.mp hd
     simp[b1J]
   simp only[b1J];omega
theorem eV (a b:Int):a0X (.int a) (.int b)=decide (a=b):=by
 have:a0X (.int a) (.int b)=(a==b):=by simp[a0X]
 rw[this];rfl
theorem Z9 (ns:List Nat) (m:Nat):((AG ns).any fun e=>a0X e (.int (m:Int)))=decide (m∈ns):=by
 rw[a3Z,a5V,decide_eq_true_iff]
 constructor
 · rintro⟨d,hd,he⟩
   obtain⟨i,hi,rfl⟩:=zL.mp hd
   obtain⟨j,hj,rfl⟩:=CQ.mp hi
   rw[eV] at he
   have:(j:Int)=(m:Int):=of_decide_eq_true he
   rw[show m=j by omega];exact hj
 · intro h
   exact⟨.int (m:Int),zL.mpr ⟨_,CQ.mpr ⟨m,h,rfl⟩,rfl⟩,by rw[eV];simp⟩
def rK:PyData->Int | .int i=>i | _=>0
theorem eY:∀(ns:List Nat) (E:EL),(AG ns).foldl (fun ts d=>JK ts (rK d) (.tuple [d])) (cvE E)=cvE (ns.foldl (fun E m=>K3 E m [m]) E)
 | [],E=>rfl
 | m::r,E=>by
   show(AG r).foldl (fun ts d=>JK ts (rK d) (.tuple [d])) (JK (cvE E) (m:Int) (chD [m]))=_
   rw[mT]
   exact eY r (K3 E m [m])
def cGo (E:EL):PyData->Bool | .int i=>(HN (cvE E) i).isSome | _=>false
theorem n4 (Ds:List Deed) (E:EL) (k:Nat):((AG (CF Ds k)).filter (cGo E)).map id=AG (EZ Ds E k):=by
 rw[a9Z]
 unfold EZ AG EY
 rw[zD,xU,zD]
 congr 1
 apply b3V
 intro j _
 show(HN (cvE E) (j:Int)).isSome=_
 rw[QW]
 cases F7 E j <;> rfl
theorem V3 (Ds:List Deed) (ns:List Nat):∀k,(AN Ds ns k).length<=k
 | 0=>by simp[AN]
 | k+1=>by
   unfold AN
   have:=V3 Ds ns k
   split
   · rw[yY];simp;exact this
   · omega
theorem ZA {Ds:List Deed}{ns:List Nat}(hn:∀m∈ns,m < Ds.length) (k:Nat) (hk:k<=Ds.length):(BI Ds ns k).length<=Ds.length:=by
 obtain⟨g1,g2⟩:=N8 hn k hk
 have hs:∀x∈(BI Ds ns k).map (·.1),x∈a1Q Ds.length:=fun x hx=>by
   rw[List.mem_range]
   rcases (g2 x).mp hx with q | q
   · exact hn x q
   · exact zP (HQ Ds ns k x q) hk
 have hp:((BI Ds ns k).map (·.1)).Perm ((a1Q Ds.length).filter fun x=>decide (x∈(BI Ds ns k).map (·.1))):=
   (b7J g1.nd (List.nodup_range.sublist a3K)).mpr fun x=>by
     rw[yL,decide_eq_true_iff]
     exact⟨fun q=>⟨hs x q,q⟩,fun q=>q.2⟩
 have e1:=hp.length_eq
 rw[zX] at e1
 have e2:=yJ (fun x=>decide (x∈(BI Ds ns k).map (·.1))) (a1Q Ds.length)
 rw[xZ] at e2
 omega
theorem iP {Ds:List Deed}{ns c:List Nat}{m:Nat}(h:ChainN Ds ns c m):c.Pairwise (· < ·):=by
 rw[b8K]
 have key:∀d i (hi:i+d+1 < c.length),c[i]'(by omega) < c[i+d+1]:=by
   intro d
   induction d with
   | zero=>intro i hi;exact EH (h.step i _ _ (zV (by omega)) (zV hi))
   | succ d ih=>
     intro i hi
     have a:=ih i (by omega)
     have b:=EH (h.step (i+d+1) _ _ (zV (by omega)) (zV (show i+d+1+1 < c.length by omega)))
     exact xQ a b
 intro i j hi hj hij
 have:=key (j - i - 1) i (by omega)
 have e:i+(j - i - 1)+1=j:=by omega
 simp only[e] at this
 exact this
theorem iQ {Ds:List Deed}{ns c:List Nat}{m:Nat}(h:ChainN Ds ns c m):c.length<=Ds.length:=by
 have hp:c.Perm ((a1Q Ds.length).filter fun x=>decide (x∈c)):=
   (b7J ((iP h).imp fun {a b} q=>zC q) (List.nodup_range.sublist a3K)).mpr fun x=>by
     rw[yL,decide_eq_true_iff,List.mem_range]
     exact⟨fun q=>⟨h.lt x q,q⟩,fun q=>q.2⟩
 have e1:=hp.length_eq
 have e2:=yJ (fun x=>decide (x∈c)) (a1Q Ds.length)
 rw[xZ] at e2
 omega
theorem MF:∀{Ds:List Deed}{so sp:List Str},ED so sp Ds->∀D∈Ds,D.real
 | D::r,so,sp,h,E,hE=>by
   rcases yX.mp hE with rfl | q
   · exact h.2.2.1
   · exact MF h.2.2.2 E q
def cCh (ns:List Nat) (d:PyData):Bool:=!((AG ns).any fun e=>a0X e d)
def cMk (Ds:List Deed):PyData->Bool | .str n=>(B1 (mkL Ds 0) n).isSome | _=>false
def fMk (Ds:List Deed):PyData->PyData | .str n=>(B1 (mkL Ds 0) n).getD .none | _=>.none
def wV (Ds:List Deed) (n:Str):Int:=match B1 (mkL Ds 0) n with | some (.int i)=>i | _=>0
theorem iR {Ds:List Deed}(hf:FreshD Ds) (ms:List Str):((ms.map a0K).filter (cMk Ds)).map (fMk Ds)=((ms.filter fun n=>(B1 (mkL Ds 0) n).isSome).map (wV Ds)).map .int:=by
 rw[xU,zD,zD]
 apply yM
 intro n hn
 have h2:(B1 (mkL Ds 0) n).isSome=true:=(yL.mp hn).2
 show(B1 (mkL Ds 0) n).getD .none = .int (wV Ds n)
 unfold wV
 rcases N7 Ds 0 hf.one n with ⟨a,_⟩ | ⟨j,_,b⟩
 · rw[a] at h2;cases h2
 · rw[b];rfl
theorem QX {ls:List (Str×Deed)}{k:Nat}(hk:k < ls.length):∃l,ls[k]?=some l/\l∈ls/\(ls.map AU)[k]?=some (.tuple [.str l.1,l.2.d])/\(dsL ls)[k]?=some l.2:=
 ⟨ls[k],zV hk,b1K hk,by rw[zF,zV hk];rfl,by rw[zF,zV hk];rfl⟩
end DL
namespace DL
open PySem PySem.Spec L2
theorem n5 {d:PyData}(h:zH d=true):a0X d d=true:=PySem.SeqAt.eqv_refl _ (zG h)
end DL
namespace DL
open PySem PySem.Spec L2
theorem NA (ys:List Str) (z:Str):((ys.map a0K).any fun e=>a0X e (.str z))=decide (z∈ys):=by
 rw[a3Z,a5V,decide_eq_true_iff]
 constructor
 · rintro⟨d,hd,he⟩
   obtain⟨y,hy,rfl⟩:=zL.mp hd
   rw[C7] at he
   rw[← eq_of_beq he];exact hy
 · intro h
   exact⟨.str z,zL.mpr ⟨z,h,rfl⟩,by rw[C7];simp⟩
theorem V4 {D:Deed}(h:D.real) {z:Str}(hz:z∈D.must):AH z:=h.1 z (yL.mp hz).1
theorem iS (l:List Nat) (k:Nat):AG l++[.int (k:Int)]=AG (l++[k]):=by
 unfold AG EY;rw[xI,xI];rfl
def rL (l:List Nat) (d:PyData):PyData:=.bool ((AG l).any fun e=>a0X e d)
theorem n6 (l ms:List Nat):(AG ms).map (rL l)=(ms.map fun j=>decide (j∈l)).map .bool:=by
 unfold AG EY
 rw[zD,zD,zD]
 apply yM
 intro j _
 show b5J ((AG l).any fun e=>a0X e (.int (j:Int)))=_
 rw[Z9];rfl
theorem V5 {α:Type}(l:List α) (g:α->Bool):(l.map g).any id=l.any g:=by rw[List.any_map];rfl
theorem rM {K:Frg}{M:Own}{ρ:List (Option DS)}{QI:List PyData->Own->Prop}{ta:TA}(h:DA K ta ρ M fun xs M1=>∃i j:Int,xs=[.d (.int i),.d (.int j)]/\(-(2 ^ 62)<=i/\i < 2 ^ 62/\-(2 ^ 62)<=j/\j < 2 ^ 62)/\QI (CC i (j - i).toNat) M1):DI K (sV ta) ρ M QI:=fun σ H R Rl k=>
 h σ H _ Rl fun vs H1 xs M1 o1 s1 t1 ⟨lo,j,e,h1,q⟩=>by
   subst e
   obtain⟨v,r,rfl,h3,v2,r2,rfl,h4,h5⟩:=s1
   cases h5
   rw[show v = .int lo by unfold SI DV at h3;exact h3,show v2 = .int j by unfold SI DV at h4;exact h4]
   have hlen:(CC lo (j - lo).toNat).length=(j - lo).toNat:=by simp[CC]
   refine⟨lo,j,rfl,h1,k _ (CC lo (j - lo).toNat) H1 M1 o1 t1 ⟨fun i H' M' hi oa st=>?_,fun H' M' oa st=>?_,fun i H' M' x H2 oa st hi y=>?_⟩ q⟩
   · show i < (j - lo).toNat;rw[← hlen];exact hi
   · show(j - lo).toNat<=(CC lo (j - lo).toNat).length;rw[hlen];exact zR _
   · obtain⟨rfl,rfl⟩:=y
     refine⟨oa,Step.refl,.int (lo+i),?_,by unfold DV;rfl⟩
     unfold CC
     rw[zF]
     rw[hlen] at hi
     simp[hi]
end DL
namespace L2
open PySem PySem.Spec PyProof.Rows
open AutoSeq1 (wpAny_loadPart')
section
variable {prog:Program}{w:World}{A:Around}{E:Value->Shared->Prop}{s:Shared}
theorem eZ {it l:Addr}{i:Nat}{items:Array Value}(hh:A.handled=none) (hx:items[i]?=none):NxE prog w A it (fun h=>h.IsTupleIter it l i/\h.IsTuple l items):=fun s Q E hS hE=>by
 obtain⟨hit,ht⟩:=hS;obtain⟨o,ho,hc,hd⟩:=id hit;obtain⟨ol,hol,_,nl,hdl⟩:=id ht
 unfold a2K;refine zZ (wpAny_callSpecial?_slot (name:=a0Q "__next__") hit.typeIs b1Z (wpAny_call_entry b1Z hit.typeIs F.entry_tuple_iterator_next ?_ (F.args_tuple_iterator_next_1 _)));show wpAny _ _ (field (.ref it) 0 >>= _) _ _ s
 refine zZ (wpAny_field ho hd (x:=.ref l) rfl ?_);show wpAny _ _ (if (a0Z l==a2V)=true then _ else _) _ _ s;rw[if_neg (show ¬((a0Z l==a2V)=true) from nft)]
 show wpAny _ _ (field (.ref it) 1 >>= _) _ _ s;refine zZ (wpAny_field ho hd (x:=.int i 0) rfl ?_);show wpAny _ _ (seqItems? (.ref l) >>= _) _ _ s
 refine zZ (wpAny_seqItems hol hdl ?_);simp only[a4Q,hx];refine zZ (wpAny_rule (zZ (wpAny_setField ho hd (by simp) ?_)))
 show wpAny _ _ (newExc (.type "StopIteration") [] >>= _) _ _ _;refine zZ ?_;simp only[newExc,newTuple]
 refine zZ (xM ?_ (by size_fits));refine zZ (m:=firstArgMember _ _) (wpAny_of_eq (a:=a2V) (by first | rfl | (simp only[firstArgMember];rfl)) ?_);refine xM ?_ (by size_fits)
 simp only[raiseNew];refine zZ (wpAny_handled ?_);first | rw[show A.in1.handled=none from hh] | rw[hh]
 refine zZ (zY (wpAny_throw ?_));exact hE _ _ (((c0K ..).extBut.push _).push _) ⟨_,yZ _ rfl,rfl⟩
theorem iT (hh:A.handled=none) (it l:Addr) (hne:l≠it) (items:Array Value):Draws prog w A it [it,l] items.size (fun i v=>items[i]?=some v) (fun i h=>h.IsTupleIter it l i/\h.IsTuple l items) where
 live:=fun _ _ st=>let ⟨o,ho,_⟩:=st.1;⟨o,ho⟩
 frame:=fun _ _ _ st hk=>⟨st.1.at fun o e=>hk it (by simp) o e,let ⟨o,e,r⟩:=st.2;⟨o,hk l (by simp) o e,r⟩⟩
 item:=fun i s Q E hi st hQ=>lD hne (y:=items[i]) (by simp[hi]) s Q E st fun h' tk x e a b=>hQ x h' tk (by rw[e];simp[hi]) a b
 done:=fun s Q E st hE=>eZ hh (by simp) s Q E st hE
theorem iU {e it l:Addr}{i:Nat}{items:Array Value}{old:Value}{Q:Option Value->Shared->Prop}(hh:A.handled=none) (he:IsEnum s.heap e it i old) (hit:s.heap.IsTupleIter it l i) (hl:s.heap.IsTuple l items) (hx:items[i]?=none)
   (hQ:∀h',Heap.ExtBut it s.heap h'->Q none { s with heap:=h' }):wpAny (model prog w) A (pyNext (.ref e)) Q E s:=by
 have hT:s.TypeIs (.ref e) "enumerate" := ⟨_,he,rfl⟩;unfold pyNext
 refine zZ (wpAny_attempt (wpAny_callSpecial?_slot (name:=a0Q "__next__") hT F.slot_enumerate_next (wpAny_call_entry F.slot_enumerate_next hT F.entry_enumerate_next ?_ (F.args_enumerate_next_1 _))));show wpAny _ _ (field (.ref e) 2 >>= _) _ _ _
 refine zZ (wpAny_field he rfl (x:=.ref it) rfl (zZ (eZ (A:=A.in1) hh hx _ _ _ ⟨hit,hl⟩ fun h' x he' hx'=>?_)));obtain⟨o,ho,hc⟩:=hx'
 exact zZ (wpAny_isInstance (T:= "StopIteration") (b:=true) ⟨o,ho,hc⟩ isSubtype_stop (zY (hQ _ he')))
theorem ZB (l:Addr) (items:Array Value) :
   Meets (Builtin.«enumerate.__new__» ⟨[.type "enumerate", .ref l],[]⟩) (fun _ R s=>s.heap.IsTuple l items /\
     R (.ok (.ret (.ref (s.heap.push { cls:=.type "tuple_iterator", data:=.fields #[.ref l,.int 0 0] }).objs.size)))
       { s with heap:=(s.heap.push { cls:=.type "tuple_iterator", data:=.fields #[.ref l,.int 0 0] }).push { cls:=.type "enumerate", data:=.fields #[.none,.bool false,.ref s.heap.objs.size,rawInt 0,.none,.none] } }):=
 .of_wp fun prog w A R s h=>by
   obtain⟨hp,g,d,tk,os⟩:=s;obtain⟨hL,h⟩:=h;have hsub:=sub_enumerate;obtain⟨⟨c,dct,dt,sl⟩,hl,hc,n,hd⟩:=id hL
   wp_walk using wpAny_loadPart' hl
   refine wpAny_stack_any fun st=>zY ?_;split
   · rename_i c _ _ _ _ _;cases (c==Value.type "enumerate") <;> (wp_walk using wpAny_loadPart' hl,wpAny_pyIter_tuple hL;exact⟨_,rfl,h⟩)
   · (wp_walk using wpAny_loadPart' hl,wpAny_pyIter_tuple hL;exact⟨_,rfl,h⟩)
theorem c8 {l:Addr}{items:Array Value}{Q:Value->Shared->Prop}(hL:s.heap.IsTuple l items)
   (h:∀h',IsEnum h' (s.heap.objs.size+1) s.heap.objs.size 0 .none->h'.IsTupleIter s.heap.objs.size l 0 ->
     (∀b o,s.heap.get? b=some o->h'.get? b=some o)->Q (.ref (s.heap.objs.size+1)) { s with heap:=h' }) :
   wpAny (model prog w) A (call (.type "enumerate") [.ref l]) Q E s:=by
 refine callType_new F.called_enumerate (by decide) (F.typeCall_enumerate_1 _) (F.newCall_enumerate_1 _) (fun obj=>F.args_object_init_2 obj _) F.entry_enumerate_new (ZB l items) ⟨hL,?_⟩
 have hz:(s.heap.push { cls:=.type "tuple_iterator", data:=.fields #[.ref l,.int 0 0] }).objs.size=s.heap.objs.size+1:=a8X ..
 show _/\_
 rw[hz]
 have he:IsEnum ((s.heap.push { cls:=.type "tuple_iterator", data:=.fields #[.ref l,.int 0 0] }).push
     { cls:=.type "enumerate", data:=.fields #[.none,.bool false,.ref s.heap.objs.size,rawInt 0,.none,.none] }) (s.heap.objs.size+1) s.heap.objs.size 0 .none:=by
   have:=yZ (s.heap.push { cls:=.type "tuple_iterator", data:=.fields #[.ref l,.int 0 0] })
     (o:={ cls:=.type "enumerate", data:=.fields #[.none,.bool false,.ref s.heap.objs.size,rawInt 0,.none,.none] }) rfl
   rw[hz] at this;exact this
 exact⟨⟨_,he,rfl⟩,h _ he ⟨_,zW _ (yZ _ rfl),rfl,rfl⟩ fun b o x=>zW _ (zW _ x)⟩
end
end L2
namespace L2
open PySem PySem.Spec PyProof.Rows
def A0e (K:Frg) (l:Addr):It:=
 ⟨fun i H=>∃xs,SqT K H l xs/\i < xs.length,
  fun i H x H'=>∃p a,H p=none/\x = .ref p/\H'=upd H p (.tup [.int (i:Nat),a])/\∀xs,SqT K H l xs->xs[i]?=some a,
  fun i H=>∃xs,SqT K H l xs/\xs.length<=i⟩
theorem c9 {P:Program}{w:World}{K:Frg}{elts:List Expr}{kk:Nat}{tpos:Pos}(e it l:Addr) (d1:e≠it) :
   Turn P w K (.Tuple elts kk tpos) (A0e K l) [e,it] e (fun i h=>(∃old,IsEnum h e it (i:Nat) old)/\h.IsTupleIter it l i) where
 mem:=by simp
 obj:=fun i h ⟨⟨old,a1⟩,a2⟩ b hb=>by
   simp only[yX,xX,or_false] at hb
   rcases hb with rfl | rfl
   · exact⟨_,a1,fun v q=>by cases q⟩
   · obtain⟨o,q,c,d⟩:=a2;exact⟨o,q,fun v z=>by rw[d] at z;cases z⟩
 keep:=fun i h h' ⟨⟨old,a1⟩,a2⟩ k=>⟨⟨old,k e (by simp) _ a1⟩,a2.at fun o q=>k it (by simp) o q⟩
 item:=by
   intro X hP hw hK hc i pins s σ H E I hf ⟨⟨old,a1⟩,a2⟩ hg
   subst hP hw hK
   obtain⟨xs,hx,lx⟩:=hg
   obtain⟨its,rx,px,_⟩:=I.tuple hx
   obtain⟨u,hu,ru⟩:=rx.get (zV lx)
   have hle:l≠e:=W7 I (hf e (by simp)) hx
   have hli:l≠it:=W7 I (hf it (by simp)) hx
   have hln:=rx.length
   refine wpAny_pyNext_enum_itemD (iT (items:=its.toArray) (A:=X.A.in1) (I.ok.hd hc) it l hli) a1 ⟨a2,px⟩ (show i < its.toArray.size by simp;omega) d1 (by simp;exact⟨d1,hle.symm⟩) fun x h' tk ex b1 b2 b3 b4 hk=>?_
   have ex:x=u:=by
     have:its[i]?=some x:=by simpa using ex
     rw[hu] at this
     exact(Option.some.inj this).symm
   subst ex
   refine⟨_,rfl,wpAny_letOwnedTupleGo_enum (s:={ s with heap:=h',toks:=tk+1 }) b1 fun h2 c1 sb=>?_⟩
   have lt:∀{c o},s.heap.get? c=some o->s.heap.objs.size≠c:=fun q=>a8Q (zM q)
   have keep:∀b o,b∉[e,it]->s.heap.get? b=some o->h2.get? b=some o:=fun b o hb q=>by
     simp only[yX,xX,or_false,not_or] at hb
     exact sb.extBut b o hb.1 (hk b o hb.1 hb.2 q)
   have hTe:s.heap.objs.size≠e:=lt a1
   have I1:Inv X pins σ (upd H s.heap.objs.size (.tup [.int (i:Nat),xs[i]])) { s with heap:=h2,toks:=tk+1 }:=I.turnedT (t':=tk+1) (ch:=[e,it]) keep (fun b hb=>(hf b hb).1)
     (fun b hb=>let q:=hf b hb;⟨q.2.2.2.1,q.2.1,q.2.2.2.2.1,q.2.2.2.2.2⟩) (zR _)
     ⟨by show 2<=sizeLine;decide,[.int (i:Nat) tk,x],.cons ⟨_,rfl⟩ (.cons ru .nil),⟨_,sb.extBut _ _ hTe b3,rfl,_,rfl⟩⟩
   refine⟨.ref s.heap.objs.size,_,I1,rfl,⟨s.heap.objs.size,xs[i],I.hok.fresh (zR _),rfl,rfl,fun xs' hx'=>?_⟩,⟨⟨_,c1⟩,let ⟨o,q,r⟩:=b2.1;⟨o,sb.extBut it o (b4Z d1) q,r⟩⟩,fun b hb=>?_⟩
   · rw[I.tuple_inj hx' hx]
     exact zV lx
   · have hlt:s.heap.objs.size≠b:=by
       simp only[yX,xX,or_false] at hb
       rcases hb with rfl | rfl
       · exact lt a1
       · obtain⟨o,q,_⟩:=a2;exact lt q
     rw[AM (b4Z hlt)]
     exact(hf b hb).1
 done:=by
   intro X hP hw hK hc i pins s σ H E I hf ⟨⟨old,a1⟩,a2⟩ hg
   subst hP hw hK
   obtain⟨xs,hx,hend⟩:=hg
   obtain⟨its,rx,px,_⟩:=I.tuple hx
   have e1:=rx.length
   have hli:l≠it:=W7 I (hf it (by simp)) hx
   refine iU (I.ok.hd hc) a1 a2 px (by rw[c0V];simp;omega) fun h' hk=>⟨rfl,I.turnedL (t':=s.toks) (ch:=[e,it]) (fun b o hb q=>?_) (fun b hb=>(hf b hb).1) fun b hb=>let q:=hf b hb;⟨q.2.2.2.1,q.2.1,q.2.2.2.2.1,q.2.2.2.2.2⟩⟩
   simp only[yX,xX,or_false,not_or] at hb
   exact hk b o hb.2 q
 self:=fun _ _ _ _ _ st h=>let ⟨_,q⟩:=st.1;wpAny_pyIter_enum q h
section
variable {X:Cx}{K:Frg}
def n8 (K:Frg) (ta:TA):TI:=fun σ H R=>ta σ H fun vs H1=>∃a,vs=[.ref a]/\(∃xs,SqT K H1 a xs)/\R (A0e K a) H1
theorem wW {a:Expr}{ta:TA}{p pos:Pos}{elts:List Expr}{kk:Nat}{tpos:Pos}(hk:X.K=K) (hg:Gl X "enumerate") (hm:X.mg "enumerate"=none) (ha:PA X [a] ta) (hs:starEach [a] X.env=[(false,eval a X.env)]:=by rfl) :
   PI X (.Tuple elts kk tpos) (.Call (.Name "enumerate" p) [a] [] pos) (n8 K ta):=by
 subst hk
 intro pins s σ H R I h
 refine Call_ (GZ I hg hm boot_enumerate (xH (thn (ha pos pins s σ H _ I h) fun us s1 ⟨vs,H1,I1,r1,q1⟩=>?_) hs rfl))
 obtain⟨l,e,⟨xs,hx⟩,q⟩:=q1
 subst e
 obtain⟨u,rfl,ru⟩:=F6 r1
 cases ru
 obtain⟨its,rx,px,_⟩:=I1.tuple hx
 refine c8 px fun h' b1 b2 hk=>?_
 refine wpAny_pyIter_enum (s:={ s1 with heap:=h' }) b1 ?_
 refine⟨s1.heap.objs.size+1,[s1.heap.objs.size+1,s1.heap.objs.size],_,_,H1,rfl,I1.kept (t':=s1.toks) hk,c9 (s1.heap.objs.size+1) s1.heap.objs.size l (Nat.succ_ne_self _),⟨⟨_,b1⟩,b2⟩,fun b hb=>?_,q⟩
 have hle:s1.heap.objs.size<=b:=by
   simp only[yX,xX,or_false] at hb
   rcases hb with rfl | rfl
   · exact a6X _ _
   · exact zR _
 exact I1.fpOk hle (I1.hok.fresh hle)
end
end L2
namespace DL
open PySem PySem.Spec L2
section
variable {K:Frg}{ρ:List (Option DS)}{M:Own}{QI:List PyData->Own->Prop}
theorem n9 {ta:TA}(h:DA K ta ρ M fun xs M1=>∃as,xs=[.d (.tuple as)]/\QI (G5 as) M1):DI K (n8 K ta) ρ M QI:=fun σ H R Rl k=>
 h σ H _ Rl fun vs H1 xs M1 o1 s1 t1 ⟨as,e,q⟩=>by
   subst e
   obtain⟨v,r,rfl,h1,h3⟩:=s1
   cases h3
   unfold SI DV at h1
   obtain⟨a,va,rfl,hl,hd⟩:=h1
   have hlen:(G5 as).length=as.length:=by unfold G5;rw[zX,b8Q]
   refine⟨a,rfl,⟨va,hl.sq⟩,k _ (G5 as) H1 M1 o1 t1 ⟨fun i H' M' hi oa st=>?_,fun H' M' oa st=>?_,fun i H' M' x H2 oa st hi y=>?_⟩ q⟩
   · rw[hlen] at hi
     exact⟨va,(hl.grow st.grow).sq,by rw[hd.length];omega⟩
   · refine⟨va,(hl.grow st.grow).sq,?_⟩
     rw[hlen,hd.length];omega
   · obtain⟨p,xa,hp,rfl,rfl,hy⟩:=y
     have e1:=hy va (hl.grow st.grow).sq
     obtain⟨da,f1,f2⟩:=hd.get e1
     have gg:Grow K M'.W M'.W H' (upd H' p (.tup [.int (i:Nat),xa])):=AW _ hp
     refine⟨oa.new hp,⟨gg⟩,.tuple [.int (i:Nat),da],?_,?_⟩
     · unfold G5
       rw[zF,List.getElem?_zipIdx,f1]
       simp
     · unfold DV
       exact⟨p,_,rfl,.inl ⟨fun w=>w (oa.none hp),.inl AK⟩,DVs.cons (by unfold DV;rfl) (DVs.cons ((f2.grow st.grow).grow gg) DVs.nil)⟩
end
end DL
namespace L2
open PySem PySem.Spec PyProof.Rows
theorem A0f {X:Cx}{body:List Stmt}{h₀:ExceptHandler}{hs:List ExceptHandler}{pos:Pos}{tb:TS}(hx:∀e s,¬X.xe e s) (hb:PSs X body tb):PS X (.Try body (h₀::hs) [] [] pos) tb:=by
 intro pins s σ H D I h
 refine wpAny_Try_except (wpAny_mono (hb pins s σ H D I h) (fun f s1 q=>?_) fun e s1 q=>absurd q (hx _ _))
 cases f with
 | next=>exact wpAny_execs_nil q
 | ret v=>exact q
 | brk=>exact q
 | cont=>exact q
end L2
namespace L2
open PySem PySem.Spec PyProof.Rows
def A0g:List Nat:=[0,1,2,3,4,5,6,7,8,9,10,11,12,13,14,15,16,17,18,19,20,21,22,23]
theorem nA {x:Str}{i:Nat}:∀(l:List Str) (k n:Nat),(l.zip (List.range' k n)).lookup x=some i->k<=i/\l[i - k]?=some x
 | [],_,_,h=>by cases h
 | _::_,_,0,h=>by cases h
 | a::r,k,n+1,h=>by
   rw[List.range'_succ,a7K,a2J] at h
   split at h
   · rename_i e
     have h:=Option.some.inj h
     subst h
     rw[Nat.sub_self]
     exact⟨zR _,by rw[eq_of_beq e];rfl⟩
   · obtain⟨h1,h2⟩:=nA r (k+1) n h
     refine⟨by omega,?_⟩
     rw[show i - k=(i - (k+1))+1 by omega]
     exact h2
theorem WJ {l:List Str}{x:Str}{i:Nat}(h:(l.zip A0g).lookup x=some i):l[i]?=some x:=(nA l 0 24 h).2
theorem pvx {X:Cx}{i:Nat}{x:Str}{pos:Pos}(h:(X.N.zip A0g).lookup x=some i) (hv:Vis X.env.scope x) (hd:(x==("__debug__":Str))=false:=by decide)
   (hcd:(x==("__classdict__":Str))=false:=by decide):PE X (.Name x pos) (oG i):=jB (WJ h) hv hd hcd
end L2
namespace DL
open PySem PySem.Spec L2
theorem AF {K:Frg}{M:Own}{Q:DS->Own->Prop}{a b:Str}{t:Bool}(h:(zH (.str a)&&zH (.str b)&&(a0X (.str a) (.str b)==t))=true) (q:Q (.d (.bool t)) M):D2 K (gD K false) (.d (.str a)) (.d (.str b)) M Q:=by
 simp only[a0W,beq_iff_eq] at h
 exact AY h.1.1 h.1.2 (by rw[if_neg nft,h.2];exact q)
end DL
namespace L2
open PySem PySem.Spec
def A0h (scope:Scope) (NC:List Str):Bool:=(NC.all fun x=>(scope.names.lookup x).isSome)&&scope.names.all fun y=>!(y.2==.local||y.2==.free||y.2==.cell)||y.1==a0Q ".0" || NC.contains y.1
theorem DY {X:Cx}{scope:Scope}{NC:List Str}{fr:List (Option Nat)}{osc:Scope}{ON:List Str}(_:A0h scope NC=true) (h:kG osc ON scope NC fr=true) (e:X.env.scope=osc) (eN:X.N=ON):CSc X scope NC fr:=CSc.of h e eN
end L2
namespace DL
open PySem PySem.Spec L2
def FU:FSp:=⟨fun xs M=>∃(w:List Th) (ls:List (Str×Deed)),xs=[.d (AL w ls)]/\ls.length<=50,fun xs M y M'=>∀(w:List Th) (ls:List (Str×Deed)),xs=[.d (AL w ls)]->y = .d (.tuple ((dsL ls).map Deed.d))/\M'=M⟩
theorem NB {M:Own}{Q:DS->Own->Prop}{w:List Th}{ls:List (Str×Deed)}(hg:ls.length<=50) (q:Q (.d (.tuple ((dsL ls).map Deed.d))) M):[DS.d (AL w ls)].length=1/\FU.pre [.d (AL w ls)] M/\∀x M',FU.post [.d (AL w ls)] M x M'->Q x M':=
 ⟨rfl,⟨w,ls,rfl,hg⟩,fun x M' h=>by obtain⟨rfl,rfl⟩:=h w ls rfl;exact q⟩
structure rowP (w:List Th) (Ds:List Deed):Prop where
 fine:DQ w
 book:N4 w Ds
 few:w.length+Ds.length < 60
def MG (w:List Th) (Ds:List Deed):List DS:=[.d (wD w),.d (.tuple (Ds.map Deed.d))]
theorem fA {w w':List Th}{Ds Ds':List Deed}(e:MG w Ds=MG w' Ds'):w=w'/\Ds=Ds':=by
 unfold MG at e
 simp only[List.cons.injEq,DS.d.injEq,PyData.tuple.injEq,and_true] at e
 refine⟨S6 e.1,?_⟩
 have:=e.2
 clear e
 induction Ds generalizing Ds' with
 | nil=>cases Ds' with | nil=>rfl | cons _ _=>cases this
 | cons a r ih=>cases Ds' with
   | nil=>cases this
   | cons b s=>
     simp only[zI,List.cons.injEq] at this
     rw[D4 this.1,ih this.2]
def K4:FSp:=⟨fun xs M=>∃w Ds,xs=MG w Ds/\rowP w Ds,fun xs M y M'=>∀w Ds,xs=MG w Ds->y = .d (.tuple [wD (JJ w Ds),.list (bkL w Ds Ds.length)])/\M'=M⟩
theorem ZC {M:Own}{Q:DS->Own->Prop}{w:List Th}{Ds:List Deed}(h:rowP w Ds) (q:Q (.d (.tuple [wD (JJ w Ds),.list (bkL w Ds Ds.length)])) M):(MG w Ds).length=2/\K4.pre (MG w Ds) M/\∀x M',K4.post (MG w Ds) M x M'->Q x M':=
 ⟨rfl,⟨w,Ds,rfl,h⟩,fun x M' h=>by obtain⟨rfl,rfl⟩:=h w Ds rfl;exact q⟩
def SO:FSp:=⟨fun xs M=>∃w Ds,xs=MG w Ds/\rowP w Ds,fun xs M y M'=>∀w Ds,xs=MG w Ds->y = .d (wD (JJ w Ds))/\M'=M⟩
theorem iV {M:Own}{Q:DS->Own->Prop}{w:List Th}{Ds:List Deed}(h:rowP w Ds) (q:Q (.d (wD (JJ w Ds))) M):(MG w Ds).length=2/\SO.pre (MG w Ds) M/\∀x M',SO.post (MG w Ds) M x M'->Q x M':=
 ⟨rfl,⟨w,Ds,rfl,h⟩,fun x M' h=>by obtain⟨rfl,rfl⟩:=h w Ds rfl;exact q⟩
theorem cA {w w':List Th}{ls ls':List (Str×Deed)}(h:AL w ls=AL w' ls'):w=w'/\ls=ls':=by
 refine⟨?_,EE h⟩
 unfold AL at h
 simp only[PyData.tuple.injEq,List.cons.injEq,and_true] at h
 exact S6 h.1
def DZ:FSp:=⟨fun xs M=>∃(w:List Th) (ls:List (Str×Deed)),xs=[.d (AL w ls)]/\rowP w (dsL ls)/\ls.length<=50,fun xs M y M'=>∀(w:List Th) (ls:List (Str×Deed)),xs=[.d (AL w ls)]->y = .d (wD (JJ w (dsL ls)))/\M'=M⟩
theorem ZD {M:Own}{Q:DS->Own->Prop}{w:List Th}{ls:List (Str×Deed)}(h:rowP w (dsL ls)) (hl:ls.length<=50) (q:Q (.d (wD (JJ w (dsL ls)))) M):[DS.d (AL w ls)].length=1/\DZ.pre [.d (AL w ls)] M/\∀x M',DZ.post [.d (AL w ls)] M x M'->Q x M':=
 ⟨rfl,⟨w,ls,rfl,h,hl⟩,fun x M' h=>by obtain⟨rfl,rfl⟩:=h w ls rfl;exact q⟩
end DL
namespace DL
open PySem PySem.Spec L2
theorem V6:∀{Ds:List Deed}{w:List Th}(k:Nat),N4 w Ds->N4 w (Ds.take k)
 | [],_,k,h=>by rw[List.take_nil];exact h
 | D::r,w,0,_=>trivial
 | D::r,w,k+1,h=>⟨h.1,V6 k h.2⟩
theorem nB {w:List Th}{Ds:List Deed}(h:rowP w Ds):DQ (JJ w Ds)/\(JJ w Ds).length<=w.length+Ds.length:=by
 have:=WF h.book h.fine h.few (zR _)
 rw[show wsF w Ds Ds.length=JJ w Ds by unfold wsF;rw[a5K]] at this
 exact⟨this.1,this.2.1⟩
end DL
namespace DL
open PySem PySem.Spec L2
theorem ZE {Ds:List Deed}{ns:List Nat}{x:Nat}:∀{k m:Nat},x < k->k<=m->(x∈AN Ds ns m↔x∈AN Ds ns k)
 | k,m,hx,hm=>by
   induction m with
   | zero=>omega
   | succ m ih=>
     by_cases e:k=m+1
     · subst e;exact Iff.rfl
     · have:=ih (by omega)
       rw[← this]
       rw[show AN Ds ns (m+1)=if decide (m∈ns)||(CF Ds m).any (fun j=>decide (j∈AN Ds ns m)) then AN Ds ns m++[m] else AN Ds ns m from rfl]
       split
       · rw[yW,a3Q]
         constructor
         · rintro (q | q)
           · exact q
           · omega
         · exact .inl
       · exact Iff.rfl
theorem OW {Ds:List Deed}{ns:List Nat}{n x:Nat}(hx:x < n):x∈AN Ds ns n↔x∈ns∨∃j∈CF Ds x,j∈AN Ds ns n:=by
 rw[ZE (k:=x+1) (Nat.lt_succ_self _) hx]
 have hj:∀j∈CF Ds x,(j∈AN Ds ns x↔j∈AN Ds ns n):=fun j hj=>(ZE (EH hj) (xR hx)).symm
 rw[show AN Ds ns (x+1)=if decide (x∈ns)||(CF Ds x).any (fun j=>decide (j∈AN Ds ns x)) then AN Ds ns x++[x] else AN Ds ns x from rfl]
 by_cases h:(decide (x∈ns)||(CF Ds x).any (fun j=>decide (j∈AN Ds ns x)))=true
 · rw[if_pos h]
   rw[b6K,a5V] at h
   constructor
   · intro _
     rcases h with h | ⟨j,a,b⟩
     · exact .inl (of_decide_eq_true h)
     · exact .inr ⟨j,a,(hj j a).mp (of_decide_eq_true b)⟩
   · intro _;simp
 · rw[if_neg h]
   constructor
   · intro q;exact absurd (HQ Ds ns x x q) (yF _)
   · rintro (q | ⟨j,a,b⟩)
     · exact absurd (by rw[decide_eq_true q,Bool.true_or]) h
     · refine absurd ?_ h
       rw[b6K,a5V]
       exact .inr ⟨j,a,decide_eq_true ((hj j a).mpr b)⟩
theorem nC {l1 l2:List Nat}(h1:l1.Pairwise (· < ·)) (h2:l2.Pairwise (· < ·)) (h:∀a,a∈l1↔a∈l2):l1=l2:=by
 have:=QV (N6 h1) (N6 h2) fun a=>by
   rw[CQ,CQ]
   constructor
   · rintro⟨j,a,b⟩;exact⟨j,(h j).mp a,b⟩
   · rintro⟨j,a,b⟩;exact⟨j,(h j).mpr a,b⟩
 unfold EY at this
 have inj:Function.Injective (fun j:Nat=>(j:Int)):=fun a b e=>by have:(a:Int)=(b:Int):=e;omega
 exact List.map_inj_right (fun a b e=>inj e) |>.mp this
end DL
namespace DL
open PySem PySem.Spec L2
def AV {α:Type}(ls:List α) (κ:List Nat):List α:=κ.filterMap fun k=>ls[k]?
theorem OX {α:Type}{ls:List α}{k:Nat}{κ:List Nat}{l:α}(h:ls[k]?=some l):AV ls (k::κ)=l::AV ls κ:=by
 unfold AV;rw[a6K,h]
theorem WK {α:Type}{ls:List α}:∀{κ:List Nat},(∀k∈κ,k < ls.length)->∀i:Nat,(AV ls κ)[i]?=(κ[i]?).bind fun k=>ls[k]?
 | [],_,i=>by simp[AV]
 | k::κ,h,i=>by
   have hk:=h k (by simp)
   rw[OX (zV hk)]
   cases i with
   | zero=>simp[zV hk]
   | succ i=>rw[c0W,c0W];exact WK (fun x hx=>h x (yV _ hx)) i
theorem SQ {α:Type}{ls:List α}:∀{κ:List Nat},(∀k∈κ,k < ls.length)->(AV ls κ).length=κ.length
 | [],_=>rfl
 | k::κ,h=>by
   rw[OX (zV (h k (by simp))),yR,yR,SQ fun x hx=>h x (yV _ hx)]
theorem nD {α β:Type}(f:α->β) (ls:List α) (κ:List Nat):(AV ls κ).map f=AV (ls.map f) κ:=by
 unfold AV
 rw[List.map_filterMap]
 congr 1
 funext k
 rw[zF]
theorem ZF {α:Type}{ls:List α}{κ:List Nat}{l:α}(h:l∈AV ls κ):l∈ls:=by
 obtain⟨k,_,e⟩:=List.mem_filterMap.mp h
 exact yN e
theorem nE {κ:List Nat}(h:κ.Pairwise (· < ·)) {i j a b:Nat}(ha:κ[i]?=some a) (hb:κ[j]?=some b):(a < b↔i < j)/\(a=b↔i=j):=by
 obtain⟨hi,rfl⟩:=yT.mp ha
 obtain⟨hj,rfl⟩:=yT.mp hb
 have p:=List.pairwise_iff_getElem.mp h
 rcases b4Q i j with q | q | q
 · have:=p i j hi hj q;exact⟨⟨fun _=>q,fun _=>this⟩,⟨fun e=>by omega,fun e=>by omega⟩⟩
 · subst q;exact⟨by simp,by simp⟩
 · have:=p j i hj hi q;exact⟨⟨fun e=>by omega,fun e=>by omega⟩,⟨fun e=>by omega,fun e=>by omega⟩⟩
end DL
namespace DL
open PySem PySem.Spec L2
section
variable {M:Own}{Q:DS->Own->Prop}{w:List Th}{ls:List (Str×Deed)}
def ER:FSp:=⟨fun xs M=>∃(w:List Th) (ls:List (Str×Deed)) (κ:List Nat),xs=[.d (AL w ls),.d (.list (AG κ))]/\(∀k∈κ,k < ls.length)/\κ.length<=60,fun xs M y M'=>∀(w:List Th) (ls:List (Str×Deed)) (κ:List Nat),xs=[.d (AL w ls),.d (.list (AG κ))]->y = .d (AL w (AV ls κ))/\M'=M⟩
theorem ZG {κ:List Nat}(hκ:∀k∈κ,k < ls.length) (hl:κ.length<=60) (q:Q (.d (AL w (AV ls κ))) M):[DS.d (AL w ls),.d (.list (AG κ))].length=2/\ER.pre [.d (AL w ls),.d (.list (AG κ))] M/\∀x M',ER.post [.d (AL w ls),.d (.list (AG κ))] M x M'->Q x M':=
 ⟨rfl,⟨w,ls,κ,rfl,hκ,hl⟩,fun x M' h=>by obtain⟨rfl,rfl⟩:=h w ls κ rfl;exact q⟩
end
theorem OY {w w':List Th}{ls ls':List (Str×Deed)}(h:AL w ls=AL w' ls'):wD w=wD w'/\ls=ls':=by
 refine⟨?_,EE h⟩
 unfold AL at h
 simp only[PyData.tuple.injEq,List.cons.injEq,and_true] at h
 exact h.1
def fLn (ls:List (Str×Deed)):PyData->PyData | .int i=>(ls.map AU).getD i.toNat .none | _=>.none
theorem MH {ls:List (Str×Deed)}:∀{κ:List Nat},(∀k∈κ,k < ls.length)->(AG κ).map (fLn ls)=(AV ls κ).map AU
 | [],_=>rfl
 | k::κ,h=>by
   have hk:=h k (by simp)
   rw[OX (zV hk),zI]
   show fLn ls (.int (k:Int))::(AG κ).map (fLn ls)=_
   rw[MH fun x hx=>h x (yV _ hx)]
   congr 1
   show(ls.map AU).getD ((k:Int)).toNat .none=_
   rw[a4Q,yU,zF,zV hk]
   rfl
end DL
namespace DL
open PySem PySem.Spec L2
theorem rN (ls:List (Str×Deed)) (κ:List Nat):dsL (AV ls κ)=AV (dsL ls) κ:=nD _ _ _
section
variable {M:Own}{Q:DS->Own->Prop}{w:List Th}{ls:List (Str×Deed)}
def okN (w:List Th):Prop:=∀t∈w,AH t.1
end
end DL
namespace L2
open PySem PySem.Spec PyProof.Rows
section
variable {X:Cx}
def cB (i j:Int):List V:=(a1Q (j - i).toNat).map fun k:Nat=>V.int (i+k)
def fB (te:TA):TE:=fun σ H Q=>te σ H fun vs H1=>∃i j:Int,vs=[.int i,.int j]/\(-(2 ^ 40)<=i/\i < 2 ^ 40/\-(2 ^ 40)<=j/\j < 2 ^ 40)/\(j - i).toNat<=1000/\∀p,H1 p=none->Q (.ref p) (upd H1 p (.lst (cB i j)))
theorem V7 {a b:Expr}{te:TA}{np rp pos mp:Pos}(hh:X.A.handled=none) (hg:Gl X "range") (hm:X.mg "range"=none) (hg2:Gl X "list") (hm2:X.mg "list"=none) (he:PA X [a,b] te)
   (hs:starEach [.Call (.Name "range" np) [a,b] [] rp] X.env=[(false,eval (.Call (.Name "range" np) [a,b] [] rp) X.env)]:=by rfl) (hs1:starEach [a,b] X.env=[(false,eval a X.env),(false,eval b X.env)]:=by rfl) (hs2:starEach [b] X.env=[(false,eval b X.env)]:=by rfl) :
   PE X (.Call (.Name "list" mp) [.Call (.Name "range" np) [a,b] [] rp] [] pos) (fB te):=by
 intro pins s σ H Q I h
 refine wpAny_Call_Name_kw (GZ I hg2 hm2 a8V ?_)
 refine xH ?_ hs rfl
 rw[hs]
 refine(show wpAny _ _ (spliced ((false,eval (.Call (.Name "range" np) [a,b] [] rp) X.env)::backTo pos (starEach [] X.env))) _ _ _ from xP ?_)
 refine wpAny_Call_Name_kw (GZ I hg hm boot_range ?_)
 refine xH (thn (he rp pins s σ H _ I h) fun us s1 ⟨vs,H1,I1,r1,q1⟩=>?_) (by rw[hs1,hs2]) (by rw[hs2];rfl)
 obtain⟨i,j,rfl,⟨b1,b2,b3,b4⟩,hn,q⟩:=q1
 cases r1 with
 | cons r rr=>
   cases rr with
   | cons r' rr=>
     cases rr
     obtain⟨t,rfl⟩:=r
     obtain⟨t',rfl⟩:=r'
     refine call_range_2 ?_
     refine(show wpAny _ _ (spliced []) _ _ _ from zY ?_)
     refine call_list_range (n:=(j - i).toNat) hh (IsRange.new ..) (small_one (by omega) (by omega) (by omega) (by omega)) (by rw[rangeSize_one];split <;> omega) (zN hn (by decide)) fun h' tk acc c hk ho hacc=>?_
     have I2:Inv X pins σ H1 { s1 with heap:=s1.heap.push { cls:=.type "range", data:=.fields #[.int i t,.int j t',.int 1 s1.toks] },toks:=s1.toks+1 }:=I1.kept fun b o e=>zW _ e
     have hv:Vals (cB i j) acc.toList:=by
       have go:∀(vs:List Value) (m:Nat) (k:Int),vs.length=m->(∀n,n < m->∃t,vs[n]?=some (b5V (k+(n:Nat)) t))->Vals ((a1Q m).map fun n:Nat=>V.int (k+n)) vs:=by
         intro vs
         induction vs with
         | nil=>intro m k e _;cases e;exact .nil
         | cons x r ih=>
           intro m k e hx
           cases e
           rw[yR,List.range_succ_eq_map,zI,zD]
           refine .cons ?_ ?_
           · obtain⟨t,ht⟩:=hx 0 (by simp)
             have:x=b5V (k+((0:Nat):Int)) t:=by simpa using ht
             rw[this];exact⟨t,rfl⟩
           · have:=ih r.length (k+1) rfl fun n hn=>by
               obtain⟨t,ht⟩:=hx (n+1) (by simpa using hn)
               refine⟨t,?_⟩
               rw[c0W] at ht
               rw[ht];congr 2;omega
             have e2:((fun n:Nat=>V.int (k+n))∘Nat.succ)=fun n:Nat=>V.int (k+1+n):=by
               funext n;show V.int _=V.int _;congr 1;simp;omega
             rw[e2];exact this
       refine go acc.toList (j - i).toNat i (by rw[a3J];exact hacc.1) fun n hn=>?_
       have hi2:n < acc.size:=by rw[hacc.1];exact hn
       obtain⟨t,ht⟩:=hacc.2 n acc[n] (b8Z hi2)
       refine⟨t,?_⟩
       rw[a7Z,b8Z hi2,ht];simp
     have I3:Inv X pins σ (upd H1 (s1.heap.push { cls:=.type "range", data:=.fields #[.int i t,.int j t',.int 1 s1.toks] }).objs.size (.lst (cB i j))) { s1 with heap:=h',toks:=tk }:=
       I2.laid (t':=tk) hk (zR _) (show ObjOk X.prog X.w _ _ _ (.lst _) from ⟨by unfold cB;rw[zX,xZ];exact zN hn (by decide),acc.toList,c,hv,by simpa using ho⟩)
     exact⟨.ref _,_,I3,rfl,q _ (I2.hok.fresh (zR _))⟩
end
end L2
namespace DL
open PySem PySem.Spec L2
section
variable {K:Frg}{ρ:List (Option DS)}{M:Own}{Q:DS->Own->Prop}
def iW (i j:Int):List PyData:=(a1Q (j - i).toNat).map fun k:Nat=>a4W (i+k)
theorem V8 {te:TA}(h:DA K te ρ M fun xs M1=>∃i j:Int,xs=[.d (.int i),.d (.int j)]/\(-(2 ^ 40)<=i/\i < 2 ^ 40/\-(2 ^ 40)<=j/\j < 2 ^ 40)/\(j - i).toNat<=1000/\Q (.d (.list (iW i j))) M1):DE K (fB te) ρ M Q:=fun σ H QQ Rl k=>
 h σ H _ Rl fun vs H1 xs M1 o1 s1 t1 ⟨i,j,ex,hb,hn,q⟩=>by
   subst ex
   obtain⟨v,r,rfl,sv,v2,r2,rfl,sv2,rfl⟩:=s1
   unfold SI DV at sv sv2
   subst sv;subst sv2
   refine⟨i,j,rfl,hb,hn,fun p hp=>?_⟩
   have g:Grow K M1.W M1.W H1 (upd H1 p (.lst (cB i j))):=AW _ hp
   refine k _ _ (.d (.list (iW i j))) M1 (o1.new hp) ?_ (t1.trans ⟨g⟩) q
   unfold SI DV
   refine⟨p,_,rfl,.inl ⟨fun w=>w (o1.none hp),.inl AK⟩,?_⟩
   have e1:iW i j=((a1Q (j - i).toNat).map fun k:Nat=>i+(k:Int)).map a4W:=by unfold iW;rw[zD];rfl
   have e2:cB i j=((a1Q (j - i).toNat).map fun k:Nat=>i+(k:Int)).map V.int:=by unfold cB;rw[zD];rfl
   rw[e1,e2]
   exact EQ
end
end DL
namespace DL
open PySem PySem.Spec L2
mutual
def plD:PyData->Bool
 | .int _=>true
 | .str _=>true
 | .tuple ds=>plAll ds
 | _=>false
def plAll:List PyData->Bool
 | []=>true
 | d::r=>plD d&&plAll r
end
mutual
theorem nG:∀(a b:PyData),plD a=true->plD b=true->a0X a b=true->a=b
 | .int i,.int j,_,_,h=>by simp only[a0X,beq_iff_eq] at h;rw[h]
 | .str i,.str j,_,_,h=>by simp only[a0X,beq_iff_eq] at h;rw[h]
 | .tuple xs,.tuple ys,h1,h2,h=>by
   simp only[a0X] at h
   rw[eqv_plAll xs ys (by simpa [plD] using h1) (by simpa [plD] using h2) h]
 | .int _,.str _,_,_,h=>by cases h
 | .int _,.tuple _,_,_,h=>by cases h
 | .str _,.int _,_,_,h=>by cases h
 | .str _,.tuple _,_,_,h=>by cases h
 | .tuple _,.int _,_,_,h=>by cases h
 | .tuple _,.str _,_,_,h=>by cases h
 | .none,_,h,_,_=>by cases h
 | .bool _,_,h,_,_=>by cases h
 | .list _,_,h,_,_=>by cases h
 | .dict _,_,h,_,_=>by cases h
 | _,.none,_,h,_=>by cases h
 | _,.bool _,_,h,_=>by cases h
 | _,.list _,_,h,_=>by cases h
 | _,.dict _,_,h,_=>by cases h
theorem eqv_plAll:∀(a b:List PyData),plAll a=true->plAll b=true->PyData.eqvAll a b=true->a=b
 | [],[],_,_,_=>rfl
 | x::xs,y::ys,h1,h2,h=>by
   simp only[plAll,a0W] at h1 h2
   simp only[PyData.eqvAll,a0W] at h
   rw[nG x y h1.1 h2.1 h.1,eqv_plAll xs ys h1.2 h2.2 h.2]
 | [],_::_,_,_,h=>by cases h
 | _::_,[],_,_,h=>by cases h
end
abbrev Ln:=Str×Deed
theorem IQ:∀(Ds:List Deed) (so sp so' sp':List Str),ED so sp Ds->L8 so sp Ds=(so',sp')->(so++sp).Nodup->(∀j x,mkN Ds j=some x->x∉sp')/\(∀k x,x∈GM Ds k->x∉sp')/\sp'.Sublist sp/\(so'++sp').Nodup
 | [],so,sp,so',sp',_,e,nd=>by cases e;exact⟨fun j x h=>by simp[mkN] at h,fun k x h=>by simp[GM] at h,a1V _,nd⟩
 | D::r,so,sp,so',sp',h,e,nd=>by
   obtain⟨h1,h2,_,h3⟩:=h
   have nd2:(B4 so D++C8 sp D).Nodup:=nd.sublist (FS h2)
   obtain⟨g1,g2,g3,g4⟩:=IQ r _ _ _ _ h3 e nd2
   have dis:∀x,x∈so->x∈sp->False:=fun x a b=>(List.nodup_append.mp nd).2.2 x a x b rfl
   refine⟨fun j x ej=>?_,fun k x ek=>?_,g3.trans (FT sp D),g4⟩
   · cases j with
     | zero=>
       intro hx
       have a:D.made=some x:=ej
       have q1:=g3.subset hx
       have q2:=h2 x a
       unfold C8 at q1
       rw[a] at q1
       dsimp only at q1
       have nsp:sp.Nodup:=(List.nodup_append.mp nd).2.1
       cases sp with
       | nil=>simp at q2
       | cons y ys=>
         have:y=x:=by simpa using q2
         subst this
         exact(xV.mp nsp).1 (by simpa using q1)
     | succ j=>exact g1 j x ej
   · cases k with
     | zero=>
       have hm:x∈D.must:=ek
       obtain⟨a,b⟩:=yL.mp hm
       have b':¬D.made=some x:=of_decide_eq_true b
       exact fun q=>dis x (J1 h1 a b') ((FT sp D).subset (g3.subset q))
     | succ k=>exact g2 k x ek
theorem nH (a b:List Deed) (i:Nat):mkN (a++b) i=if i < a.length then mkN a i else mkN b (i - a.length):=by
 unfold mkN;rw[List.getElem?_append];by_cases c:i < a.length
 · rw[if_pos c,if_pos c]
 · rw[if_neg c,if_neg c]
theorem nI (a b:List Deed) (i:Nat):GM (a++b) i=if i < a.length then GM a i else GM b (i - a.length):=by
 unfold GM;rw[List.getElem?_append];by_cases c:i < a.length
 · rw[if_pos c,if_pos c]
 · rw[if_neg c,if_neg c]
theorem iX {a b:List Deed}{so sp so' sp' sp2:List Str}(h1:ED so sp a) (e:L8 so sp a=(so',sp')) (nd:(so++sp).Nodup) (p:sp2.Perm sp') (h2:ED so' sp2 b):FreshD (a++b):=by
 obtain⟨g1,g2,g3,g4⟩:=IQ a so sp so' sp' h1 e nd
 obtain⟨_,fa⟩:=OU a so sp h1 nd
 obtain⟨mb,fb⟩:=OU b so' sp2 h2 ((List.Perm.append_left so' p).nodup_iff.mpr g4)
 refine⟨fun i j x e1 e2=>?_,fun j k x e1 e2=>?_⟩
 · rw[nH] at e1 e2
   split at e1 <;> split at e2
   · exact fa.one i j x e1 e2
   · exact absurd (p.mem_iff.mp (mb _ x e2)) (g1 _ x e1)
   · exact absurd (p.mem_iff.mp (mb _ x e1)) (g1 _ x e2)
   · have:=fb.one _ _ x e1 e2;omega
 · rw[nH] at e1
   rw[nI] at e2
   split at e1 <;> split at e2
   · exact fa.bef j k x e1 e2
   · omega
   · exact absurd (p.mem_iff.mp (mb _ x e1)) (g2 _ x e2)
   · have:=fb.bef _ _ x e1 e2;omega
def CG (c n:Nat):List Nat:=(a1Q (n - c)).map fun k=>c+k
theorem ZH (c n:Nat):iW (c:Int) (n:Int)=AG (CG c n):=by
 unfold iW CG AG EY
 rw[zD,zD,show((n:Int) - (c:Int)).toNat=n - c by omega]
 apply yM
 intro k _
 show a4W ((c:Int)+(k:Int)) = .int ((c+k:Nat):Int)
 rw[Int.natCast_add]
theorem D5 {c n k:Nat}:k∈CG c n↔c<=k/\k < n:=by
 unfold CG
 rw[zL]
 constructor
 · rintro⟨i,hi,rfl⟩
   have:=List.mem_range.mp hi;omega
 · rintro⟨h1,h2⟩
   exact⟨k - c,List.mem_range.mpr (by omega),by omega⟩
theorem ND (c n:Nat):(CG c n).length=n - c:=by simp[CG]
section
variable {M:Own}{Q:DS->Own->Prop}{w:List Th}{A B:List Ln}
theorem A0i {w w':List Th}(e:wD w=wD w') (A:List Ln):AL w A=AL w' A:=by
 show PyData.tuple [wD w,_] = .tuple [wD w',_]
 rw[e]
abbrev lnX (so sp:List Str) (cs:List Int):List DS:=[.d (AQ so),.d (AQ sp),.d (.list (cs.map .int))]
def lnQ (so sp:List Str) (cs:List Int) (ls:List Ln) (so' sp':List Str):Prop:=ED so sp (dsL ls)/\L8 so sp (dsL ls)=(so',sp')/\(∀l∈ls,AH l.1)/\ls.length<=cs.length/\namesOK (so'++sp')
theorem cC {so sp so' sp' so2 sp2 sp3:List Str}{cs cs2:List Int}{ls as:List Ln}(hn:namesOK (so++sp)) (h1:lnQ so sp cs ls so' sp') (p:sp3.Perm sp') (h2:lnQ so' sp3 cs2 as so2 sp2) (hl:cs.length+cs2.length<=50):goodB w (ls++as) where
 fresh:=by
   have e:dsL (ls++as)=dsL ls++dsL as:=xI
   rw[e]
   exact iX h1.1 h1.2.1 hn.2.1 p h2.1
 real:=fun l hl=>by
   rcases yW.mp hl with q | q
   · exact MF h1.1 _ (zL.mpr ⟨l,q,rfl⟩)
   · exact MF h2.1 _ (zL.mpr ⟨l,q,rfl⟩)
 few:=by rw[yY];have:=h1.2.2.2.1;have:=h2.2.2.2.1;omega
 hands:=fun l hl=>by
   rcases yW.mp hl with q | q
   · exact h1.2.2.1 l q
   · exact h2.2.2.1 l q
end
end DL
namespace DL
open PySem PySem.Spec L2
def JL:Deed->Option Str | .take x=>some x | .name x _=>some x | .join _ y=>some y | _=>none
def MI:Option Str->PyData | some x=>.str x | none=>.none
theorem rO (D:Deed):lY D.d=MI (JL D):=by cases D <;> rfl
theorem wX (D:Deed):GJ D.d=MI D.made:=by cases D <;> rfl
theorem SR {D:Deed}(hr:D.real) {z:Str}(h:JL D=some z):AH z:=hr.1 z (by cases D <;> simp_all [JL,Deed.names])
theorem ZI {D:Deed}(hr:D.real) {z:Str}(h:D.made=some z):AH z:=hr.1 z (by cases D <;> simp_all [Deed.made,Deed.names])
theorem PH {e:Option Str}(h:∀z,e=some z->AH z):zH (MI e)=true:=by
 cases e with
 | none=>rfl
 | some z=>exact AJ (h z rfl)
theorem nJ (a b:Option Str):a0X (MI a) (MI b)=decide (a=b):=by
 cases a <;> cases b
 · rfl
 · rfl
 · rfl
 · rename_i x y
   show a0X (.str x) (.str y)=_
   rw[C7,a3Z,beq_iff_eq,decide_eq_true_iff,Option.some.injEq]
def L9 (A:List Ln) (e:Option Str) (k:Nat):Bool:=match e with | some x=>decide (x∈GM (dsL A) k) | none=>false
def tN (A:List Ln) (e:Option Str):PyData->Bool | .int i=>L9 A e i.toNat | _=>false
theorem iY (A:List Ln) (e:Option Str) (κ:List Nat):((AG κ).filter (tN A e)).map id=AG (κ.filter (L9 A e)):=by
 rw[a9Z]
 unfold AG EY
 rw[xU,xU,zD,zD]
 congr 1
theorem rP {A:List Ln}{e:Option Str}{k:Nat}{l:Ln}(hl:(dsL A)[k]?=some l.2):((l.2.must.map a0K).any fun d=>a0X d (MI e))=L9 A e k:=by
 unfold L9 GM
 rw[hl]
 cases e with
 | none=>show(l.2.must.map a0K).any (fun d=>a0X d .none)=false;rw[List.any_map];exact List.any_eq_false.mpr fun z _=>by simp[a0X]
 | some x=>exact NA _ _
theorem K5 {ss:List Str}(h:∀s∈ss,AH s):zH (.tuple (ss.map .str))=true:=by
 refine FQ (bB fun d hd=>?_) ?_
 · obtain⟨s,hs,rfl⟩:=zL.mp hd
   exact FY (h s hs)
 · have:a6J (ss.map .str)<=2:=bC fun d hd=>by
     obtain⟨s,hs,rfl⟩:=zL.mp hd
     simp[b1J]
   simp only[b1J]
   omega
section
variable {M:Own}{Q:DS->Own->Prop}{w:List Th}{A B:List Ln}
abbrev nK (w:List Th) (A:List Ln) (κ:List Nat) (e:Option Str):List DS:=[.d (AL w A),.d (.list (AG κ)),.d (MI e)]
def NE:FSp:=⟨fun xs M=>∃(w:List Th) (A:List Ln) (κ:List Nat) (e:Option Str),xs=nK w A κ e/\goodB w A/\(∀k∈κ,k < A.length)/\κ.length<=60/\∀z,e=some z->AH z,fun xs M y M'=>∀(w:List Th) (A:List Ln) (κ:List Nat) (e:Option Str),xs=nK w A κ e->y = .d (.tuple (AG (κ.filter (L9 A e))))/\M'=M⟩
theorem nL {κ:List Nat}{e:Option Str}(h1:goodB w A) (h2:∀k∈κ,k < A.length) (h3:κ.length<=60) (h4:∀z,e=some z->AH z) (q:Q (.d (.tuple (AG (κ.filter (L9 A e))))) M):(nK w A κ e).length=3/\NE.pre (nK w A κ e) M/\∀x M',NE.post (nK w A κ e) M x M'->Q x M':=
 ⟨rfl,⟨w,A,κ,e,rfl,h1,h2,h3,h4⟩,fun x M' hh=>by obtain⟨rfl,rfl⟩:=hh w A κ e rfl;exact q⟩
theorem nM {a b:Option Str}(h:MI a=MI b):a=b:=by cases a <;> cases b <;> simp_all [MI]
def ZJ (f:Deed->List Str):FSp:=⟨fun xs M=>∃D:Deed,xs=[.d D.d]/\D.real,fun xs M y M'=>∀D:Deed,xs=[.d D.d]->y = .d (.tuple ((f D).map .str))/\M'=M⟩
theorem G6 {f:Deed->List Str}{D:Deed}(hr:D.real) (q:Q (.d (.tuple ((f D).map .str))) M):[DS.d D.d].length=1/\(ZJ f).pre [.d D.d] M/\∀x M',(ZJ f).post [.d D.d] M x M'->Q x M':=
 ⟨rfl,⟨D,rfl,hr⟩,fun x M' hh=>by obtain⟨rfl,rfl⟩:=hh D rfl;exact q⟩
def G7 (D:Deed):List Str:=D.made.toList
def NF (D:Deed):List Str:=(JL D).toList
def NG:FSp:=ZJ G7
def KQ:FSp:=ZJ NF
def GN:Deed->List Str | .put _ _ _=>[] | .join x y=>[x,y] | .take x=>[x] | .move x _=>[x] | .count x _=>[x] | .name x _=>[x] | .split x _ _ _=>[x]
theorem QY {D:Deed}(hr:D.real):D.must=GN D:=by
 have hap:=hr.2.1
 cases D <;> first | (simp[Deed.must,Deed.names,Deed.made,GN];done) | (simp[Deed.must,Deed.names,Deed.made,GN,b4Z hap];done)
def MJ:FSp:=ZJ GN
theorem nN {K:Frg}{ds:List PyData}(q:Q (.d (.list ds)) M):DR K (VZ K) [.d (.list ds)] M Q:=fun H vs QQ oa s k=>by
 obtain⟨v,r,rfl,h1,h2⟩:=s
 cases h2
 unfold SI DV at h1
 obtain⟨a,vs,rfl,hl,hd⟩:=h1
 refine⟨a,vs,rfl,.inl hl.sq,fun p hp=>?_⟩
 have g:Grow K M.W M.W H (upd H p (.lst vs)):=AW _ hp
 refine k _ _ (.d (.list ds)) M (oa.new hp) ?_ ⟨g⟩ q
 unfold SI DV
 exact⟨p,vs,rfl,.inl ⟨fun w=>w (oa.none hp),.inl AK⟩,hd.grow g⟩
def wY (ls:List Str) (d:PyData):Bool:=!((ls.map a0K).any fun e=>a0X e d)
theorem ZK (ls st:List Str):((st.map a0K).filter (wY ls)).map id=(st.filter fun z=>!decide (z∈ls)).map .str:=by
 rw[a9Z,xU]
 congr 1
 apply b3V
 intro z _
 show(!((ls.map a0K).any fun e=>a0X e (.str z)))=_
 rw[NA]
end
end DL
namespace DL
open PySem PySem.Spec L2
def enN (Ds:List Deed) (j:Nat):Option Str:=(Ds[j]?).bind JL
def wnN (Ds:List Deed) (j:Nat):List Str:=match Ds[j]? with | some D=>GN D | none=>[]
def BkD (S:List Str) (Ds:List Deed):Prop:=∀k,(∀x,mkN Ds k=some x->x∉S/\∀j,j < k->mkN Ds j≠some x)/\∀x∈wnN Ds k,(x∈S∨∃j,j < k/\mkN Ds j=some x)/\∀j,j < k->enN Ds j≠some x
def WL (st kn:List Str) (D:Deed):Bool:=!((G7 D).any fun x=>decide (x∈kn))&&!((GN D).any fun x=>!decide (x∈st))
def OZ (st:List Str) (D:Deed):List Str:=(st.filter fun z=>!decide (z∈NF D))++G7 D
def Q8:List Str->List Str->List Deed->Bool
 | _,_,[]=>true
 | st,kn,D::r=>WL st kn D&&Q8 (OZ st D) (kn++G7 D) r
theorem ZL {D:Deed}{x:Str}(h:JL D=some x):x∈GN D:=by cases D <;> simp_all [JL,GN]
theorem EF {D:Deed}{x:Str}:x∈G7 D↔D.made=some x:=by unfold G7;cases D.made <;> simp[eq_comm]
theorem SS {D:Deed}{x:Str}:x∈NF D↔JL D=some x:=by unfold NF;cases JL D <;> simp[eq_comm]
theorem NH {st kn:List Str}{D:Deed}:WL st kn D=true↔(∀x,D.made=some x->x∉kn)/\∀x∈GN D,x∈st:=by
 unfold WL
 rw[a0W,Bool.not_eq_true',Bool.not_eq_true',c0X,c0X]
 constructor
 · rintro⟨h1,h2⟩
   exact⟨fun x e q=>h1 x (EF.mpr e) (decide_eq_true q),fun x hx=>by have:=h2 x hx;simpa using this⟩
 · rintro⟨h1,h2⟩
   exact⟨fun x e q=>h1 x (EF.mp e) (of_decide_eq_true q),fun x hx=>by have:=h2 x hx;simpa using this⟩
theorem E1 {Ds:List Deed}{D:Deed}{k:Nat}:(Ds++[D])[k]?=if k < Ds.length then Ds[k]? else if k=Ds.length then some D else none:=by
 rw[List.getElem?_append]
 split
 · rfl
 · rename_i h
   by_cases e:k=Ds.length
   · subst e;simp
   · rw[if_neg e];rw[a0V];simp;omega
structure StB (S st kn:List Str) (Ds:List Deed):Prop where
 bk:BkD S Ds
 kn_:∀x,x∈kn↔x∈S∨∃j,mkN Ds j=some x
 st_:∀x,x∈st↔x∈kn/\∀j,enN Ds j≠some x
theorem QZ {S:List Str}{Ds:List Deed}{D:Deed}:BkD S (Ds++[D])↔BkD S Ds/\(∀x,D.made=some x->x∉S/\∀j,mkN Ds j≠some x)/\∀x∈GN D,(x∈S∨∃j,mkN Ds j=some x)/\∀j,enN Ds j≠some x:=by
 have lt1:∀j,j < Ds.length->mkN (Ds++[D]) j=mkN Ds j/\enN (Ds++[D]) j=enN Ds j/\wnN (Ds++[D]) j=wnN Ds j:=fun j hj=>by
   unfold mkN enN wnN
   rw[E1,if_pos hj]
   exact⟨rfl,rfl,rfl⟩
 have out:∀j,Ds.length<=j->mkN Ds j=none/\enN Ds j=none:=fun j hj=>by
   unfold mkN enN
   rw[a0V hj];exact⟨rfl,rfl⟩
 have at_:mkN (Ds++[D]) Ds.length=D.made/\wnN (Ds++[D]) Ds.length=GN D:=by
   unfold mkN wnN
   rw[E1,if_neg (yF _),if_pos rfl];exact⟨rfl,rfl⟩
 have inD:∀{j x},mkN Ds j=some x->j < Ds.length:=fun {j x} e=>by
   rcases Nat.lt_or_ge j Ds.length with q | q
   · exact q
   · rw[(out j q).1] at e;cases e
 have inE:∀{j x},enN Ds j=some x->j < Ds.length:=fun {j x} e=>by
   rcases Nat.lt_or_ge j Ds.length with q | q
   · exact q
   · rw[(out j q).2] at e;cases e
 constructor
 · intro h
   refine⟨fun k=>?_,fun x e=>?_,fun x hx=>?_⟩
   · by_cases hk:k < Ds.length
     · obtain⟨a,b⟩:=h k
       rw[(lt1 k hk).1,(lt1 k hk).2.2] at *
       refine⟨fun x e=>⟨(a x e).1,fun j hj=>?_⟩,fun x hx=>⟨(b x hx).1.imp id fun⟨j,hj,e⟩=>⟨j,hj,by rw[← (lt1 j (by omega)).1];exact e⟩,fun j hj=>?_⟩⟩
       · rw[← (lt1 j (by omega)).1];exact(a x e).2 j hj
       · rw[← (lt1 j (by omega)).2.1];exact(b x hx).2 j hj
     · refine⟨fun x e=>absurd (inD e) hk,fun x hx=>?_⟩
       unfold wnN at hx
       rw[a0V (by omega)] at hx;cases hx
   · obtain⟨a,b⟩:=(h Ds.length).1 x (by rw[at_.1];exact e)
     exact⟨a,fun j ej=>b j (inD ej) (by rw[(lt1 j (inD ej)).1];exact ej)⟩
   · obtain⟨a,b⟩:=(h Ds.length).2 x (by rw[at_.2];exact hx)
     exact⟨a.imp id fun⟨j,hj,e⟩=>⟨j,by rw[← (lt1 j hj).1];exact e⟩,fun j ej=>b j (inE ej) (by rw[(lt1 j (inE ej)).2.1];exact ej)⟩
 · rintro⟨h,hm,hw⟩ k
   rcases b4Q k Ds.length with hk | hk | hk
   · obtain⟨a,b⟩:=h k
     rw[(lt1 k hk).1,(lt1 k hk).2.2]
     refine⟨fun x e=>⟨(a x e).1,fun j hj=>?_⟩,fun x hx=>⟨(b x hx).1.imp id fun⟨j,hj,e⟩=>⟨j,hj,by rw[(lt1 j (by omega)).1];exact e⟩,fun j hj=>?_⟩⟩
     · rw[(lt1 j (by omega)).1];exact(a x e).2 j hj
     · rw[(lt1 j (by omega)).2.1];exact(b x hx).2 j hj
   · subst hk
     rw[at_.1,at_.2]
     refine⟨fun x e=>⟨(hm x e).1,fun j hj=>?_⟩,fun x hx=>⟨(hw x hx).1.imp id fun⟨j,e⟩=>⟨j,inD e,by rw[(lt1 j (inD e)).1];exact e⟩,fun j hj=>?_⟩⟩
     · rw[(lt1 j hj).1];exact(hm x e).2 j
     · rw[(lt1 j hj).2.1];exact(hw x hx).2 j
   · have e:(Ds++[D])[k]?=none:=by rw[a0V];simp;omega
     unfold mkN wnN
     rw[e]
     exact⟨fun x q=>(by cases q),fun x q=>(by cases q)⟩
theorem StB.step {S st kn:List Str}{Ds:List Deed}{D:Deed}(h:StB S st kn Ds) (ok:WL st kn D=true):StB S (OZ st D) (kn++G7 D) (Ds++[D]):=by
 obtain⟨h1,h2⟩:=NH.mp ok
 have mk:∀x,(∃j,mkN (Ds++[D]) j=some x)↔(∃j,mkN Ds j=some x)∨D.made=some x:=fun x=>by
   constructor
   · rintro⟨j,e⟩
     unfold mkN at e
     rw[E1] at e
     split at e
     · exact .inl ⟨j,e⟩
     · split at e
       · exact .inr e
       · cases e
   · rintro (⟨j,e⟩ | e)
     · refine⟨j,?_⟩
       unfold mkN at e ⊢
       rw[E1]
       split
       · exact e
       · rename_i hj;rw[a0V (by omega)] at e;cases e
     · exact⟨Ds.length,by unfold mkN;rw[E1,if_neg (yF _),if_pos rfl];exact e⟩
 have en:∀x,(∀j,enN (Ds++[D]) j≠some x)↔(∀j,enN Ds j≠some x)/\JL D≠some x:=fun x=>by
   constructor
   · intro h
     refine⟨fun j e=>h j ?_,fun e=>h Ds.length ?_⟩
     · unfold enN at e ⊢
       rw[E1]
       split
       · exact e
       · rename_i hj;rw[a0V (by omega)] at e;cases e
     · unfold enN;rw[E1,if_neg (yF _),if_pos rfl];exact e
   · rintro⟨a,b⟩ j e
     unfold enN at e
     rw[E1] at e
     split at e
     · exact a j e
     · split at e
       · exact b e
       · cases e
 refine⟨QZ.mpr ⟨h.bk,fun x e=>?_,fun x hx=>?_⟩,fun x=>?_,fun x=>?_⟩
 · have:=h1 x e
   rw[h.kn_] at this
   exact⟨fun q=>this (.inl q),fun j q=>this (.inr ⟨j,q⟩)⟩
 · obtain⟨a,b⟩:=(h.st_ x).mp (h2 x hx)
   exact⟨(h.kn_ x).mp a,b⟩
 · rw[yW,h.kn_,mk,EF,or_assoc]
 · unfold OZ
   rw[yW,yL,yW,en,EF]
   have hne:∀x,D.made=some x->(∀j,enN Ds j≠some x)/\JL D≠some x:=fun x e=>by
     refine⟨fun j ej=>?_,fun e2=>h1 x e ((h.st_ x).mp (h2 x (ZL e2))).1⟩
     have hx:x∈wnN Ds j:=by
       unfold enN at ej;unfold wnN
       cases hD:Ds[j]? with
       | none=>rw[hD] at ej;cases ej
       | some F=>rw[hD] at ej;exact ZL ej
     refine h1 x e ((h.kn_ x).mpr (((h.bk j).2 x hx).1.imp id fun⟨i,_,q⟩=>⟨i,q⟩))
   constructor
   · rintro (⟨a,b⟩ | a)
     · obtain⟨c,d⟩:=(h.st_ x).mp a
       exact⟨.inl c,d,fun q=>by simp[SS.mpr q] at b⟩
     · exact⟨.inr a,hne x a⟩
   · rintro⟨a | a,b,c⟩
     · exact .inl ⟨(h.st_ x).mpr ⟨a,b⟩,by simp[SS,c]⟩
     · exact .inr a
theorem WM {S:List Str}:∀(r Ds:List Deed) (st kn:List Str),StB S st kn Ds->(Q8 st kn r=true↔BkD S (Ds++r))
 | [],Ds,st,kn,h=>by rw[a2W];simp[Q8,h.bk]
 | D::r,Ds,st,kn,h=>by
   rw[Q8,a0W,show Ds++D::r=(Ds++[D])++r by simp]
   constructor
   · rintro⟨a,b⟩
     exact(WM r _ _ _ (h.step a)).mp b
   · intro hb
     have hpre:BkD S (Ds++[D]):=fun k=>by
       have hk:=hb k
       by_cases q:k < (Ds++[D]).length
       · have e:∀j,j<=k->((Ds++[D])++r)[j]?=(Ds++[D])[j]?:=fun j hj=>yQ (by omega)
         unfold mkN wnN enN at *
         rw[e k (zR _)] at hk
         refine⟨fun x ex=>⟨(hk.1 x ex).1,fun j hj=>?_⟩,fun x hx=>⟨(hk.2 x hx).1.imp id fun⟨j,hj,q⟩=>⟨j,hj,by rw[← e j (by omega)];exact q⟩,fun j hj=>?_⟩⟩
         · rw[← e j (by omega)];exact(hk.1 x ex).2 j hj
         · rw[← e j (by omega)];exact(hk.2 x hx).2 j hj
       · unfold mkN wnN
         rw[a0V (by omega)]
         exact⟨fun x q=>(by cases q),fun x q=>(by cases q)⟩
     obtain⟨_,hm,hw⟩:=QZ.mp hpre
     have ok:WL st kn D=true:=NH.mpr ⟨fun x e q=>by
       rcases (h.kn_ x).mp q with c | ⟨j,c⟩
       · exact(hm x e).1 c
       · exact(hm x e).2 j c,fun x hx=>(h.st_ x).mpr ⟨(h.kn_ x).mpr (hw x hx).1,(hw x hx).2⟩⟩
     exact⟨ok,(WM r _ _ _ (h.step ok)).mpr hb⟩
theorem ST {S:List Str}{Ds:List Deed}:Q8 S S Ds=true↔BkD S Ds:=by
 have:=WM (S:=S) Ds [] S S ⟨fun k=>by unfold mkN wnN;simp,fun x=>by simp[mkN],fun x=>by simp[enN]⟩
 simpa using this
section
variable {S:List Str}{DA DB:List Deed}{c:Nat}{κ:List Nat}
theorem G8 {j:Nat}(h:j < DA.length) (X:List Deed):mkN (DA++X) j=mkN DA j/\enN (DA++X) j=enN DA j/\wnN (DA++X) j=wnN DA j:=by
 unfold mkN enN wnN;rw[yQ h];exact⟨rfl,rfl,rfl⟩
theorem IR (hκ:∀k∈κ,k < DB.length) {i b:Nat}(h:κ[i]?=some b):mkN (DA++AV DB κ) (DA.length+i)=mkN DB b/\enN (DA++AV DB κ) (DA.length+i)=enN DB b/\wnN (DA++AV DB κ) (DA.length+i)=wnN DB b:=by
 unfold mkN enN wnN
 rw[yP (a6X _ _),b3Z,WK hκ,h]
 exact⟨rfl,rfl,rfl⟩
theorem cD (hκ:∀k∈κ,k < DB.length) {i:Nat}(h:κ[i]?=none):mkN (DA++AV DB κ) (DA.length+i)=none/\enN (DA++AV DB κ) (DA.length+i)=none/\wnN (DA++AV DB κ) (DA.length+i)=[]:=by
 unfold mkN enN wnN
 rw[yP (a6X _ _),b3Z,WK hκ,h]
 exact⟨rfl,rfl,rfl⟩
theorem cE (hp:DA.take c=DB.take c) {j:Nat}(h:j < c):mkN DA j=mkN DB j/\enN DA j=enN DB j:=by
 have:DA[j]?=DB[j]?:=by rw[← b2K h,hp,b2K h]
 unfold mkN enN;rw[this];exact⟨rfl,rfl⟩
theorem rQ (hA:BkD S DA) (hB:BkD S DB) (hp:DA.take c=DB.take c) (hc:c<=DA.length) (hi:κ.Pairwise (· < ·)) (hκ:∀k∈κ,c<=k/\k < DB.length)
   (nm:∀b∈κ,∀x,mkN DB b=some x->∀j,c<=j->mkN DA j≠some x) (ne:∀b∈κ,∀x∈wnN DB b,∀j,c<=j->enN DA j≠some x)
   (cl:∀b∈κ,∀x∈wnN DB b,∀j,c<=j->j < b->mkN DB j=some x->j∈κ):BkD S (DA++AV DB κ):=by
 have hκ':∀k∈κ,k < DB.length:=fun k hk=>(hκ k hk).2
 intro k
 by_cases hk:k < DA.length
 · rw[(G8 hk _).1,(G8 hk _).2.2]
   obtain⟨a,b⟩:=hA k
   refine⟨fun x e=>⟨(a x e).1,fun j hj=>?_⟩,fun x hx=>⟨(b x hx).1.imp id fun⟨j,hj,e⟩=>⟨j,hj,by rw[(G8 (by omega) _).1];exact e⟩,fun j hj=>?_⟩⟩
   · rw[(G8 (by omega) _).1];exact(a x e).2 j hj
   · rw[(G8 (by omega) _).2.1];exact(b x hx).2 j hj
 · obtain⟨i,rfl⟩:∃i,k=DA.length+i:=⟨k - DA.length,by omega⟩
   cases hb:κ[i]? with
   | none=>
     rw[(cD hκ' hb).1,(cD hκ' hb).2.2]
     exact⟨fun x q=>(by cases q),fun x q=>(by cases q)⟩
   | some b=>
     have hbκ:=yN hb
     obtain⟨h1,h2⟩:=hB b
     have hcb:=(hκ b hbκ).1
     rw[(IR hκ' hb).1,(IR hκ' hb).2.2]
     have all:∀(f:List Deed->Nat->Option Str) (x:Str),(∀j,j < DA.length->f (DA++AV DB κ) j=f DA j)->(∀j,j < c->f DA j=f DB j)->(∀i b,κ[i]?=some b->f (DA++AV DB κ) (DA.length+i)=f DB b)->(∀j,j < b->f DB j≠some x)->(∀j,c<=j->f DA j≠some x)->∀j,j < DA.length+i->f (DA++AV DB κ) j≠some x:=by
       intro f x f1 f2 f3 g1 g2 j hj
       by_cases q:j < DA.length
       · rw[f1 j q]
         by_cases q2:j < c
         · rw[f2 j q2];exact g1 j (by omega)
         · exact g2 j (by omega)
       · obtain⟨i',rfl⟩:∃i',j=DA.length+i':=⟨j - DA.length,by omega⟩
         have hil:i < κ.length:=(yT.mp hb).1
         have hb':κ[i']?=some κ[i']:=zV (by omega)
         rw[f3 i' _ hb']
         exact g1 _ ((nE hi hb' hb).1.mpr (by omega))
     refine⟨fun x e=>⟨(h1 x e).1,all mkN x (fun j q=>(G8 q _).1) (fun j q=>(cE hp q).1) (fun i b q=>(IR hκ' q).1) (h1 x e).2 (nm b hbκ x e)⟩,fun x hx=>⟨?_,all enN x (fun j q=>(G8 q _).2.1) (fun j q=>(cE hp q).2) (fun i b q=>(IR hκ' q).2.1) (h2 x hx).2 (ne b hbκ x hx)⟩⟩
     rcases (h2 x hx).1 with q | ⟨j,hj,e⟩
     · exact .inl q
     · by_cases q:j < c
       · exact .inr ⟨j,by omega,by rw[(G8 (by omega) _).1,(cE hp q).1];exact e⟩
       · obtain⟨i',hi'⟩:=b5Z (cl b hbκ x hx j (by omega) hj e)
         have:=(nE hi hi' hb).1.mp hj
         exact .inr ⟨DA.length+i',by omega,by rw[(IR hκ' hi').1];exact e⟩
theorem nO (h:BkD S (DA++AV DB κ)) (hκ:∀k∈κ,k < DB.length) {b:Nat}(hb:b∈κ):(∀x,mkN DB b=some x->∀j,mkN DA j≠some x)/\∀x∈wnN DB b,∀j,enN DA j≠some x:=by
 obtain⟨i,hi⟩:=b5Z hb
 obtain⟨h1,h2⟩:=h (DA.length+i)
 rw[(IR hκ hi).1] at h1
 rw[(IR hκ hi).2.2] at h2
 refine⟨fun x e j ej=>?_,fun x hx j ej=>?_⟩
 · have hj:j < DA.length:=by
     rcases Nat.lt_or_ge j DA.length with q | q
     · exact q
     · unfold mkN at ej;rw[a0V q] at ej;cases ej
   exact(h1 x e).2 j (by omega) (by rw[(G8 hj _).1];exact ej)
 · have hj:j < DA.length:=by
     rcases Nat.lt_or_ge j DA.length with q | q
     · exact q
     · unfold enN at ej;rw[a0V q] at ej;cases ej
   exact(h2 x hx).2 j (by omega) (by rw[(G8 hj _).2.1];exact ej)
end
theorem ZM (c n:Nat):(CG c n).Pairwise (· < ·):=by
 unfold CG
 rw[a3V]
 exact List.pairwise_lt_range.imp fun h=>by omega
end DL
namespace DL
open PySem PySem.Spec L2
theorem nP {st so:List Str}{D:Deed}(h:∀x,x∈st↔x∈so):∀x,x∈OZ st D↔x∈B4 so D:=fun x=>by
 unfold OZ
 rw[yW,yL,EF,h]
 have he:(!decide (x∈NF D))=true↔JL D≠some x:=by simp[SS]
 rw[he]
 cases D <;> simp[B4,JL,Deed.made,yW,yL] <;> simp[eq_comm]
theorem SU {S:List Str}:∀(Ds Pre:List Deed) (st kn so sp so' sp':List Str),StB S st kn Pre->(∀x,x∈st↔x∈so)->(∀x∈sp,x∉kn)->(so++sp).Nodup->ED so sp Ds->L8 so sp Ds=(so',sp')->∃st' kn',StB S st' kn' (Pre++Ds)/\(∀x,x∈st'↔x∈so')/\∀x∈sp',x∉kn'
 | [],Pre,st,kn,so,sp,so',sp',h,h1,h2,_,_,e=>by cases e;exact⟨st,kn,by rw[a2W];exact h,h1,h2⟩
 | D::r,Pre,st,kn,so,sp,so',sp',h,h1,h2,nd,hf,e=>by
   obtain⟨g1,g2,g3,g4⟩:=hf
   have hin:∀x,D.made=some x->x∈sp:=fun x ex=>List.mem_of_mem_head? (g2 x ex)
   have ok:WL st kn D=true:=NH.mpr ⟨fun x ex=>h2 x (hin x ex),fun x hx=>by
     rw[← QY g3] at hx
     obtain⟨a,b⟩:=yL.mp hx
     exact(h1 x).mpr (J1 g1 a (of_decide_eq_true b))⟩
   obtain⟨st',kn',a,b,c⟩:=SU r (Pre++[D]) _ _ _ _ so' sp' (h.step ok) (nP h1) (fun x hx q=>by
     rcases yW.mp q with q | q
     · exact h2 x ((FT sp D).subset hx) q
     · have ex:=EF.mp q
       have hh:=g2 x ex
       have nsp:sp.Nodup:=(List.nodup_append.mp nd).2.1
       unfold C8 at hx
       rw[ex] at hx
       cases sp with
       | nil=>simp at hh
       | cons y ys=>
         have:y=x:=by simpa using hh
         subst this
         exact(xV.mp nsp).1 (by simpa using hx)) (nd.sublist (FS g2)) g4 e
   exact⟨st',kn',by rw[show Pre++D::r=(Pre++[D])++r by simp];exact a,b,c⟩
theorem nQ {S so sp so' sp' so2 sp2 sp3:List Str}{cs cs2:List Int}{ls as:List Ln}(hS:∀x,x∈S↔x∈so) (hn:namesOK (so++sp)) (h1:lnQ so sp cs ls so' sp') (p:sp3.Perm sp') (h2:lnQ so' sp3 cs2 as so2 sp2):BkD S (dsL (ls++as)):=by
 have dis:∀x,x∈so->x∈sp->False:=fun x a b=>(List.nodup_append.mp hn.2.1).2.2 x a x b rfl
 obtain⟨st,kn,a,b,c⟩:=SU (S:=S) (dsL ls) [] S S so sp so' sp' ⟨fun k=>by unfold mkN wnN;simp,fun x=>by simp[mkN],fun x=>by simp[enN]⟩ hS (fun x hx q=>dis x ((hS x).mp q) hx) hn.2.1 h1.1 h1.2.1
 obtain⟨g1,g2,g3,g4⟩:=IQ _ so sp so' sp' h1.1 h1.2.1 hn.2.1
 obtain⟨st2,kn2,a2,_⟩:=SU (S:=S) (dsL as) _ st kn so' sp3 so2 sp2 a b (fun x hx=>c x (p.mem_iff.mp hx)) ((List.Perm.append_left so' p).nodup_iff.mpr g4) h2.1 h2.2.1
 have:=a2.bk
 rw[List.nil_append] at this
 rw[show dsL (ls++as)=dsL ls++dsL as from xI]
 exact this
def C0 (κ:List Nat):List (List Nat):=κ.foldl (fun F n=>F++F.map fun s=>s++[n]) [[]]
theorem KR (κ:List Nat) (n:Nat):C0 (κ++[n])=C0 κ++(C0 κ).map fun s=>s++[n]:=by unfold C0;rw[b9K];rfl
theorem nR (κ:List Nat):(C0 κ).length=2 ^ κ.length:=by
 have go:∀(r κ:List Nat),(C0 κ).length=2 ^ κ.length->(C0 (κ++r)).length=2 ^ (κ++r).length:=fun r=>by
   induction r with
   | nil=>intro κ h;rw[a2W];exact h
   | cons n r ih=>
     intro κ h
     rw[show κ++n::r=(κ++[n])++r by simp]
     refine ih _ ?_
     rw[KR,yY,zX,h,yY]
     simp[Nat.pow_succ];omega
 simpa using go κ [] rfl
theorem ZN (κ:List Nat):∀s∈C0 κ,s.Sublist κ:=by
 have go:∀(r κ:List Nat),(∀s∈C0 κ,s.Sublist κ)->∀s∈C0 (κ++r),s.Sublist (κ++r):=fun r=>by
   induction r with
   | nil=>intro κ h;rw[a2W];exact h
   | cons n r ih=>
     intro κ h
     rw[show κ++n::r=(κ++[n])++r by simp]
     refine ih _ fun s hs=>?_
     rw[KR] at hs
     rcases yW.mp hs with q | q
     · exact(h s q).trans (List.sublist_append_left _ _)
     · obtain⟨s',h',rfl⟩:=zL.mp q
       exact(h s' h').append (a1V _)
 simpa using go κ [] (fun s hs=>by simp[C0] at hs;subst hs;exact a1V _)
theorem ZO (κ:List Nat) (p:Nat->Bool):κ.filter p∈C0 κ:=by
 have go:∀(r κ:List Nat),κ.filter p∈C0 κ->(κ++r).filter p∈C0 (κ++r):=fun r=>by
   induction r with
   | nil=>intro κ h;rw[a2W];exact h
   | cons n r ih=>
     intro κ h
     rw[show κ++n::r=(κ++[n])++r by simp]
     refine ih _ ?_
     rw[KR,List.filter_append]
     cases hp:p n with
     | true=>exact zB _ (zL.mpr ⟨_,h,by simp[hp]⟩)
     | false=>exact zA _ (by simpa [hp] using h)
 simpa using go κ [] (by simp[C0])
section
variable {M:Own}{Q:DS->Own->Prop}{w:List Th}{A B:List Ln}
abbrev BD (w:List Th):List Str:=w.map (·.1)
abbrev isX (w:List Th) (C:List Ln):List DS:=[.d (wD w),.d (.list (C.map AU))]
def EG:FSp:=⟨fun xs M=>∃(w:List Th) (C:List Ln),xs=isX w C/\okN w/\w.length<=26/\(∀l∈C,l.2.real)/\C.length<=60,fun xs M y M'=>∀(w:List Th) (C:List Ln),xs=isX w C->y = .d (.bool (Q8 (BD w) (BD w) (dsL C)))/\M'=M⟩
theorem PJ {C:List Ln}(h1:okN w) (h2:w.length<=26) (h3:∀l∈C,l.2.real) (h4:C.length<=60) (q:Q (.d (.bool (Q8 (BD w) (BD w) (dsL C)))) M):(isX w C).length=2/\EG.pre (isX w C) M/\∀x M',EG.post (isX w C) M x M'->Q x M':=
 ⟨rfl,⟨w,C,rfl,h1,h2,h3,h4⟩,fun x M' hh=>by obtain⟨rfl,rfl⟩:=hh w C rfl;exact q⟩
def K6:FSp:=⟨fun xs M=>∃κ:List Nat,xs=[.d (.list (AG κ))]/\κ.length<=12,fun xs M y M'=>∀κ:List Nat,xs=[.d (.list (AG κ))]->y = .d (.list ((C0 κ).map chD))/\M'=M⟩
theorem iZ {κ:List Nat}(h:κ.length<=12) (q:Q (.d (.list ((C0 κ).map chD))) M):[DS.d (.list (AG κ))].length=1/\K6.pre [.d (.list (AG κ))] M/\∀x M',K6.post [.d (.list (AG κ))] M x M'->Q x M':=
 ⟨rfl,⟨κ,rfl,h⟩,fun x M' hh=>by obtain⟨rfl,rfl⟩:=hh κ rfl;exact q⟩
end
end DL
namespace DL
open PySem PySem.Spec L2
theorem rR (ls kn:List Str):(ls.map a0K).map (fun d=>b5J ((kn.map a0K).any fun e=>a0X e d))=(ls.map fun x=>decide (x∈kn)).map .bool:=by
 rw[zD,zD]
 apply yM
 intro x _
 show b5J ((kn.map a0K).any fun e=>a0X e (.str x)) = .bool (decide (x∈kn))
 rw[NA]
theorem nS (ls kn:List Str):(ls.map a0K).map (fun d=>b5J (!((kn.map a0K).any fun e=>a0X e d)))=(ls.map fun x=>!decide (x∈kn)).map .bool:=by
 rw[zD,zD]
 apply yM
 intro x _
 show b5J (!((kn.map a0K).any fun e=>a0X e (.str x))) = .bool (!decide (x∈kn))
 rw[NA]
theorem PK (w:List Th):(w.map thD).map (fun d=>match d with | .tuple (x::_)=>x | d=>d)=(BD w).map .str:=by
 rw[zD,zD];rfl
end DL
namespace DL
open PySem PySem.Spec L2
def tP (n:Nat):PyData->PyData | .tuple ds=>.tuple (ds++[.int (n:Int)]) | d=>d
theorem nT (F:List (List Nat)) (n:Nat):(F.map chD).map (tP n)=(F.map fun s=>s++[n]).map chD:=by
 rw[zD,zD]
 apply yM
 intro s _
 show PyData.tuple (AG s++[.int (n:Int)]) = .tuple (AG (s++[n]))
 rw[iS]
def fTh:PyData->PyData | .tuple (x::_)=>x | d=>d
theorem fC (w:List Th):(w.map thD).map fTh=(BD w).map .str:=by
 rw[zD,zD];rfl
theorem WN:∀a:List Nat,plAll (AG a)=true
 | []=>rfl
 | n::r=>by show(plD (.int (n:Int))&&plAll (AG r))=true;rw[WN r];rfl
theorem wZ (a b:List Nat):a0X (chD a) (chD b)=decide (a=b):=by
 by_cases e:a=b
 · subst e
   rw[decide_eq_true rfl]
   exact n5 (CU a)
 · rw[decide_eq_false e]
   cases h:a0X (chD a) (chD b) with
   | false=>rfl
   | true=>
     have:=nG _ _ (show plD (chD a)=true from WN a) (show plD (chD b)=true from WN b) h
     exact absurd (HR (PyData.tuple.inj this)) e
theorem nU (c n:Nat):CC (c:Int) ((n:Int) - (c:Int)).toNat=AG (CG c n):=by
 unfold CC AG EY CG
 rw[show((n:Int) - (c:Int)).toNat=n - c by omega,zD,zD]
 apply yM
 intro k _
 show a4W ((c:Int)+(k:Int)) = .int ((c+k:Nat):Int)
 congr 1
theorem x8 (out G:List Nat) (h:∀k∈G,k∈out):(AG G).map (rL out)=(G.map fun _=>true).map .bool:=by
 rw[n6]
 congr 1
 exact yM fun k hk=>decide_eq_true (h k hk)
theorem cF {α:Type}(l:List α):(l.map fun _=>true).all id=true:=by
 rw[List.all_map];simp
end DL
namespace L2
open PySem PySem.Spec PyProof.Rows
abbrev rS:=Option Key
def nV:rS->Value->Bool
 | some k,v=>JM k v
 | none,.none=>true
 | none,_=>false
def okH (w:World):rS->Int
 | some k=>xE w k
 | none=>0xFCA86420
theorem CA:∀{k:rS}{v:Value},nV k v=true->(k=none/\v = .none)∨∃k',k=some k'/\JM k' v=true
 | some k,v,h=>.inr ⟨k,rfl,h⟩
 | none,v,h=>by cases v <;> first | exact .inl ⟨rfl,rfl⟩ | exact nomatch h
theorem j0 {prog:Program}{w:World}{A:Around}{E:Value->Shared->Prop}{s:Shared}{Q:Int->Shared->Prop}(h:Q 0xFCA86420 { s with toks:=s.toks+1 }):wpAny (model prog w) A (pyHash .none) Q E s:=by
 have hT:s.TypeIs .none "NoneType" := rfl
 unfold pyHash
 have hv:[a2V].any Value.onHeap=false:=rfl
 refine zZ ?_
 rw[cRoomFor,if_neg (by rw[hv];exact nft)];refine zY ?_
 refine zZ (wpAny_specialOf hT PySem.F.slot_NoneType_hash.lookup ?_)
 show wpAny _ _ (if (some (Value.builtin "NoneType.__hash__")==some a2V)=true then _ else _) Q E s
 rw[if_neg (by rw[beq_builtin_none];exact nft)]
 refine zZ (wpAny_specialOf hT PySem.F.slot_NoneType_hash.lookup ?_)
 show wpAny _ _ (callSpecialIfBoundUnlessNone? .none "__hash__" _ >>= _) Q E s
 refine zZ (wpAny_callSpecialIfBoundUnlessNone?_slot hT PySem.F.slot_NoneType_hash
   (wpAny_call_entry PySem.F.slot_NoneType_hash hT PySem.F.entry_NoneType_hash
     (show wpAny _ _ (do ret (← mkInt 0xFCA86420)) _ _ s from wpAny_ret_mkInt ?_) (PySem.F.args_NoneType_hash_1 _)))
 show wpAny _ _ (if (decide (-(2:Int) ^ 63<=0xFCA86420)&&decide ((0xFCA86420:Int) < 2 ^ 63))=true then _ else _) Q E _
 rw[if_pos (by decide)]
 exact zY h
def fD (prog:Program) (w:World):PySem.KeyKind prog w rS where
 is:=nV
 hash:=okH w
 inj:=fun v a b ha hb=>by
   rcases CA ha with ⟨rfl,rfl⟩ | ⟨a',rfl,ha⟩
   · rcases CA hb with ⟨rfl,_⟩ | ⟨b',rfl,hb⟩
     · rfl
     · rcases AS hb with ⟨_,_,_,e⟩ | ⟨_,_,_,e⟩ <;> exact nomatch e
   · rcases CA hb with ⟨rfl,rfl⟩ | ⟨b',rfl,hb⟩
     · rcases AS ha with ⟨_,_,_,e⟩ | ⟨_,_,_,e⟩ <;> exact nomatch e
     · rw[(AO prog w).inj v a' b' ha hb]
 byValue:=fun k v h=>by
   rcases CA h with ⟨rfl,rfl⟩ | ⟨a',rfl,ha⟩
   · rfl
   · exact(AO prog w).byValue a' v ha
 pyHash:=fun hv h=>by
   rcases CA hv with ⟨rfl,rfl⟩ | ⟨a',rfl,ha⟩
   · exact j0 h
   · exact(AO prog w).pyHash ha h
 eqBool:=fun {A E s a b u v Q} hu hv h=>by
   rcases CA hu with ⟨rfl,rfl⟩ | ⟨a',rfl,ha⟩
   · rcases CA hv with ⟨rfl,rfl⟩ | ⟨b',rfl,hb⟩
     · exact SeqAt.EqAt.same .none _ _ _ _ (by simpa using h)
     · rcases AS hb with ⟨j,u,rfl,rfl⟩ | ⟨y,u,rfl,rfl⟩
       · exact SeqAt.EqAt.none_int j u _ _ _ _ h
       · exact SeqAt.EqAt.none_str y u _ _ _ _ h
   · rcases CA hv with ⟨rfl,rfl⟩ | ⟨b',rfl,hb⟩
     · rcases AS ha with ⟨j,u,rfl,rfl⟩ | ⟨y,u,rfl,rfl⟩
       · exact SeqAt.EqAt.int_none j u _ _ _ _ h
       · exact SeqAt.EqAt.str_none y u _ _ _ _ h
     · refine(AO prog w).eqBool ha hb ?_
       by_cases e:a'=b'
       · subst e;simpa using h
       · rw[decide_eq_false e];rw[decide_eq_false (fun q=>e (Option.some.inj q))] at h;exact h
 «strs»:=fun k x t v h=>by
   rcases CA h with ⟨rfl,e⟩ | ⟨a',rfl,ha⟩
   · exact nomatch e
   · exact(AO prog w).strs a' x t v ha
theorem rT {prog:Program}{w:World}{h:Heap}{a:Addr}{f:Key->Option Value}(m:h.MapOf (AO prog w) a f):∃g,h.MapOf (fD prog w) a g/\g none=none:=by
 obtain⟨o,es,ep,h1,h2,h3,h4,h5⟩:=m
 refine⟨fun k=>findBy nV es k,⟨o,es,ep,h1,h2,h3,fun e he=>?_,fun k=>rfl⟩,?_⟩
 · obtain⟨k,a,b⟩:=h4 e he
   exact⟨some k,a,b⟩
 · show findBy nV es none=none
   rw[findBy_of_findIdx?,show(es.findIdx? fun e=>nV none e.key)=none from ?_]
   rw[Array.findIdx?_eq_none_iff]
   intro e he
   obtain⟨k,a,_⟩:=h4 e he
   rcases AS (show JM k e.key=true from a) with ⟨_,_,_,q⟩ | ⟨_,_,_,q⟩ <;> rw[q] <;> rfl
def tQ (ty td:TE):TE:=fun σ H Q=>ty σ H fun y H1=>td σ H1 fun x H2=>∃a,x = .ref a/\((∃o,TK H2 a y o/\Q (.bl o.isSome) H2)∨∃kvs,Rd H2 a (.dK kvs)/\y = .non/\Q (.bl false) H2)
theorem rV {X:Cx}{o i:Expr}{td ty:TE}(hu:X.A.units+1 < cLine) (hi:PE X i ty) (ho:PE X o td):PC X .In i o (tQ ty td):=by
 intro pins s σ H Q I h
 refine thn (hi pins s σ H _ I h) fun iv s1 ⟨y,H1,I1,ry,q1⟩=>thn (ho pins s1 σ H1 _ I1 q1) fun u s2 ⟨x,H2,I2,rx,a,ex,g⟩=>?_
 subst ex
 obtain rfl:u=a0Z a:=rx
 rcases g with ⟨ov,g,q2⟩ | ⟨kvs,e,rfl,q2⟩
 · exact A0A hu I2 g ry fun s3 I3=>⟨.bl ov.isSome,H2,I3,rfl,q2⟩
 · cases (show iv=a2V from ry)
   obtain⟨z,hd,vs,rel,dd⟩:=JP I2.hok e
   obtain⟨g,hm,hg⟩:=rT dd.mapOf
   refine wpAny_in_of (knd:=fD X.prog X.w) (k:=none) rfl hd hm ?_
   rw[hg]
   exact⟨.bl false,H2,I2.tok _,rfl,q2⟩
end L2
namespace DL
open PySem PySem.Spec L2
variable {K:Frg}{ρ:List (Option DS)}{M:Own}{Q:DS->Own->Prop}
theorem rW {td ty:TE}(h:DE K ty ρ M fun y M1=>DE K td ρ M1 fun x M2=>∃(a:Addr) (ts:List (Str×PyData)) (k:Option Str),x = .loc a/\y = .d (k.elim .none .str)/\M2 a=some (.d (B0 ts))/\Q (.d (.bool (k.elim false fun k=>(B1 ts k).isSome))) M2):DE K (tQ ty td) ρ M Q:=fun σ H QQ R kk=>
 h σ H _ R fun v H1 x M1 o1 s1 t1 h1=>h1 σ H1 _ (R.step o1 t1) fun u H2 y M2 o2 s2 t2 h2=>by
   obtain⟨a,ts,k,rfl,rfl,m,q⟩:=h2
   unfold SI at s2
   subst s2
   obtain⟨ks,e1,e2⟩:=o2 a _ m
   cases k with
   | none=>
     refine⟨a,rfl,.inr ⟨ks,.inl e1,?_,kk _ H2 _ M2 o2 AI (t1.trans t2) q⟩⟩
     unfold SI DV at s1
     exact s1
   | some k=>
     rw[BA s1]
     refine⟨a,rfl,.inl ⟨E9 ks (a1Z k),.inl ⟨ks,a1Z k,.inl e1,rfl,rfl⟩,kk _ H2 _ M2 o2 ?_ (t1.trans t2) q⟩⟩
     rcases HJ (k:=k) e2 with ⟨d',w',a1,a2,a3⟩ | ⟨a1,a2⟩
     · show SI K H2 M2 (.d (.bool (B1 ts k).isSome)) _
       rw[a1,a2];exact AI
     · show SI K H2 M2 (.d (.bool (B1 ts k).isSome)) _
       rw[a1,a2];exact AI
end DL
namespace DL
open PySem PySem.Spec L2
theorem nW {st:List Str}{D:Deed}:OZ st D=B4 st D:=by
 cases D <;> simp[OZ,B4,NF,JL,G7,Deed.made]
theorem SV:∀{Ds:List Deed}{w:List Th}{so sp:List Str},DQ w->(w.map (·.1)).Perm so->ED so sp Ds->w.length+Ds.length < 60->N4 w Ds
 | [],_,_,_,_,_,_,_=>trivial
 | D::r,w,so,sp,hw,hp,hf,hl=>by
   obtain⟨g1,g2,g3,g4⟩:=hf
   have hl':w.length+r.length+1 < 60:=by simpa [Nat.add_assoc] using hl
   have hg:goD w D:=⟨⟨hw.1.nodup,by omega⟩,g3,by rw[SE hp];exact g1⟩
   obtain⟨f1,f2⟩:=OS hw hg (by omega)
   exact⟨hg,SV f1 ((SF hg).trans (K2 hp D)) g4 (by omega)⟩
def stN (st:List Str) (Ds:List Deed):List Str:=Ds.foldl OZ st
theorem ZP (st:List Str) (Ds:List Deed) (D:Deed):stN st (Ds++[D])=OZ (stN st Ds) D:=by unfold stN;rw[b9K];rfl
theorem rX:∀{Ds:List Deed}{w:List Th},DQ w->N4 w Ds->w.length+Ds.length < 60->((JJ w Ds).map (·.1)).Perm (stN (w.map (·.1)) Ds):=by
 have go:∀{Ds:List Deed}{w:List Th}{so:List Str},DQ w->(w.map (·.1)).Perm so->N4 w Ds->w.length+Ds.length < 60->((JJ w Ds).map (·.1)).Perm (stN so Ds):=by
   intro Ds
   induction Ds with
   | nil=>intro w so _ p _ _;exact p
   | cons D r ih=>
     intro w so hw p hb hl
     have hl':w.length+r.length+1 < 60:=by simpa [Nat.add_assoc] using hl
     obtain⟨f1,f2⟩:=OS hw hb.1 (by omega)
     have:stN so (D::r)=stN (B4 so D) r:=by unfold stN;rw[b6J,nW]
     rw[this]
     exact ih f1 ((SF hb.1).trans (K2 p D)) hb.2 (by omega)
 intro Ds w hw hb hl
 exact go hw (List.Perm.refl _) hb hl
theorem P0:∀{Ds:List Deed}{so sp so' sp':List Str},ED so sp Ds->L8 so sp Ds=(so',sp')->∀k,(stN so (Ds.take k)++sp').Sublist (so++sp)
 | [],so,sp,so',sp',_,e,k=>by cases e;rw[List.take_nil];exact a1V _
 | D::r,so,sp,so',sp',hf,e,0=>by
   have h1:=P0 (k:=0) hf.2.2.2 e
   have h2:sp'.Sublist (C8 sp D):=by
     have key:∀(r:List Deed) (a b so' sp':List Str),L8 a b r=(so',sp')->sp'.Sublist b:=by
       intro r
       induction r with
       | nil=>intro a b so' sp' e;cases e;exact a1V _
       | cons F r ih=>intro a b so' sp' e;exact(ih _ _ _ _ e).trans (FT b F)
     exact key r _ _ _ _ e
   exact(a1V so).append (h2.trans (FT sp D))
 | D::r,so,sp,so',sp',hf,e,k+1=>by
   have:stN so ((D::r).take (k+1))=stN (B4 so D) (r.take k):=by rw[List.take_succ_cons];unfold stN;rw[b6J,nW]
   rw[this]
   exact(P0 hf.2.2.2 e k).trans (FS hf.2.1)
end DL
namespace DL
open PySem PySem.Spec L2
section
variable {K:Frg}{M:Own}{ρ:List (Option DS)}{P:List (Option DS)->Own->Prop}{Q:DS->Own->Prop}
theorem SIs.tail {H:Hp}{a:Addr}:∀{ds:List PyData}{vs:List V},SIs K H M (ds.map .d++[.loc a]) vs->∃us,vs=us++[.ref a]/\DVs K H M.W ds us
 | [],vs,h=>by
   obtain⟨v,r,rfl,h1,h2⟩:=h
   cases h2
   cases (show v = .ref a from h1)
   exact⟨[],rfl,DVs.nil⟩
 | d::ds,vs,h=>by
   obtain⟨v,r,rfl,h1,h2⟩:=h
   obtain⟨us,rfl,h3⟩:=SIs.tail h2
   exact⟨v::us,rfl,DVs.cons h1 h3⟩
theorem rY {tl:TA}(h:DA K tl ρ M fun xs M1=>∃ds a,xs=ds.map .d++[.loc a]/\ds.length < sizeLine/\Q (.tl ds a) M1):DE K (uN tl) ρ M Q:=fun σ H QQ R k=>
 h σ H _ R fun vs H1 xs M1 o1 s1 t1 h1=>by
   obtain⟨ds,a,rfl,hz,q⟩:=h1
   obtain⟨us,rfl,hd⟩:=s1.tail
   refine⟨by rw[yY,hd.length];exact hz,fun p hp=>?_⟩
   have g:Grow K M1.W M1.W H1 (upd H1 p (.tup (us++[.ref a]))):=AW _ hp
   refine k _ _ (.tl ds a) M1 (o1.new hp) ?_ (t1.trans ⟨g⟩) q
   unfold SI
   exact⟨p,us,rfl,.inl ⟨fun w=>w (o1.none hp),.inl AK⟩,hd.grow g⟩
def DGl (K:Frg) (g:TGs) (ds:List PyData) (a:Addr) (ρ:List (Option DS)) (M:Own) (P:List (Option DS)->Own->Prop):Prop:=
 ∀(σ:St) (H:Hp) (vs:List V) (QQ:St->Hp->Prop),Rel K M ρ σ H->DVs K H M.W ds vs->(∀ρ' M' σ' H',Rel K M' ρ' σ' H'->Step K M M' H H'->P ρ' M'->QQ σ' H')->g (vs++[.ref a]) σ H QQ
theorem rZ {i:Nat}{a:Addr}(h:P (ρ.set i (some (.loc a))) M):DGl K (UA (MP i) oJ) [] a ρ M P:=fun σ H vs QQ R hd k=>by
 unfold DVs at hd
 subst hd
 exact⟨.ref a,[],rfl,rfl,k _ M _ H (R.set (x:=.loc a) rfl i) Step.refl h⟩
theorem NI {i:Nat}{g:TGs}{d:PyData}{ds:List PyData}{a:Addr}(h:DGl K g ds a (ρ.set i (some (.d d))) M P):DGl K (UA (MP i) g) (d::ds) a ρ M P:=fun σ H vs QQ R hd k=>by
 unfold DVs at hd
 obtain⟨v,r,rfl,h1,h2⟩:=hd
 refine⟨v,r++[V.ref a],rfl,?_⟩
 exact h (σ.set i (some v)) H r QQ (R.set (x:=.d d) h1 i) h2 k
theorem sB {D:EndsD}{te:TE}{n:Nat}{g:TGs}(h:DE K te ρ M fun x M1=>∃ds a,x = .tl ds a/\ds.length+1=n/\DGl K g ds a ρ M1 D.nx):DSt K (jG te (dW K n g)) ρ M D:=fun σ H E R k1 _ _ _=>
 h σ H _ R fun v H' x M' a b c q=>by
   obtain⟨ds,p,rfl,hn,q⟩:=q
   unfold SI at b
   obtain⟨t,vs,rfl,hw,hd⟩:=b
   exact⟨t,vs++[.ref p],rfl,.inl hw.sq,by rw[yY,hd.length];exact hn,q σ H' vs _ (R.step a c) hd fun ρ2 M2 σ2 H2 R2 st2 p=>k1 ρ2 M2 σ2 H2 R2 (c.trans st2) p⟩
end
end DL
namespace DL
open PySem PySem.Spec L2
theorem ZQ:∀{Ds:List Deed}{a b:List Str},a.Perm b->(stN a Ds).Perm (stN b Ds)
 | [],_,_,p=>p
 | D::r,a,b,p=>by
   have e:∀c,stN c (D::r)=stN (B4 c D) r:=fun c=>by unfold stN;rw[b6J,nW]
   rw[e,e]
   exact ZQ (K2 p D)
theorem namesOK.perm {as bs:List Str}(h:namesOK bs) (p:as.Perm bs):namesOK as:=⟨fun z hz=>h.1 z (p.mem_iff.mp hz),p.nodup_iff.mpr h.2.1,by rw[p.length_eq];exact h.2.2⟩
theorem fE (κ ns:List Nat):((AG κ).filter (cCh ns)).map id=AG (κ.filter fun m=>!decide (m∈ns)):=by
 rw[a9Z]
 unfold AG EY
 rw[zD,zD,xU]
 congr 1
 apply b3V
 intro m _
 show(!((AG ns).any fun e=>a0X e (.int (m:Int))))=_
 rw[Z9]
theorem sC {B:List Ln}{κ:List Nat}(G:List Nat) (hκ:∀m∈κ,m < B.length):((AG κ).filter (cCh G)).map (fLn B)=(AV B (κ.filter fun m=>!decide (m∈G))).map AU:=by
 have e:=fE κ G
 rw[a9Z] at e
 rw[e]
 exact MH fun m hm=>hκ m (yL.mp hm).1
structure D53 (w:List Th) (ls:List Ln):Prop where
 good:goodB w ls
 fine:DQ w
 book:N4 w (dsL ls)
 five:w.length<=5
 few:ls.length<=40
structure A53 (n:Nat) (w:List Th) (ls:List Ln) (k:Nat) (so sp:List Str):Prop where
 d:D53 w ls
 few:ls.length<=n
 le:k<=ls.length
 so_:so=stN (BD w) (dsL (ls.take k))
 ok:namesOK (so++sp)
 new:∀x∈sp,x∉BD w/\∀j,mkN (dsL ls) j≠some x
 bk:BkD (BD w) (dsL ls)
structure P53 (w:List Th) (ls:List Ln) (k:Nat) (D:Deed):Prop where
 d:D53 w ls
 le:k<=ls.length
 real:D.real
 can:BB (stN (BD w) (dsL (ls.take k))) D=none
 new:∀x,D.made=some x->x∉BD w/\∀j,mkN (dsL ls) j≠some x
section
variable {w:List Th}{ls:List Ln}{k n:Nat}{D:Deed}{h:Str}{so sp:List Str}{M:Own}{Q:DS->Own->Prop}
theorem SW (ls:List Ln) (k:Nat):dsL (ls.take k)=(dsL ls).take k:=a7V ..
theorem D53.row (h:D53 w ls) (k:Nat):rowP w (dsL (ls.take k)):=by
 have h1:=h.five
 have h2:=h.few
 refine⟨h.fine,by rw[SW];exact V6 k h.book,?_⟩
 rw[zX,a0J]
 omega
theorem P53.go (h:P53 w ls k D):goD (JJ w (dsL (ls.take k))) D:=by
 have h1:=h.d.five
 have h2:=h.d.few
 have r:=h.d.row k
 obtain⟨f1,f2⟩:=nB r
 have hl:(dsL (ls.take k)).length<=ls.length:=by rw[zX,a0J];omega
 exact⟨⟨f1.1.nodup,by omega⟩,h.real,by rw[SE (rX r.fine r.book r.few)];exact h.can⟩
theorem A53.put (a:A53 n w ls k so sp) (hr:D.real) (ha:BB so D=none) (hm:∀n,D.made=some n->sp.head?=some n):P53 w ls k D:=
 ⟨a.d,a.le,hr,by rw[← a.so_];exact ha,fun x e=>a.new x (List.mem_of_mem_head? (hm x e))⟩
theorem A53.of {so0 sp0 so':List Str}{cs:List Int}(hw:DQ w) (hp:(BD w).Perm so0) (h5:w.length<=5) (hn:namesOK (so0++sp0)) (hq:lnQ so0 sp0 cs ls so' sp) (hc:cs.length<=n) (hc2:n<=40) (hk:k<=ls.length):A53 n w ls k (stN (BD w) (dsL (ls.take k))) sp:=by
 have q0:lnQ so' sp [] [] so' sp:=⟨trivial,rfl,by simp,by simp,hq.2.2.2.2⟩
 have hfew:=hq.2.2.2.1
 have hl:(dsL ls).length=ls.length:=zX _
 have hg:goodB w ls:=by
   have:=cC (w:=w) hn hq (.refl _) q0 (by simp;omega)
   rwa [a2W] at this
 have hb:BkD (BD w) (dsL ls):=by
   have:=nQ (S:=BD w) (fun x=>hp.mem_iff) hn hq (.refl _) q0
   rwa [a2W] at this
 have hbook:=SV hw hp hq.1 (by omega)
 have hsub:=P0 hq.1 hq.2.1 k
 obtain⟨g1,_,g3,_⟩:=IQ _ _ _ _ _ hq.1 hq.2.1 hn.2.1
 have dis:∀x,x∈so0->x∈sp0->False:=fun x a b=>(List.nodup_append.mp hn.2.1).2.2 x a x b rfl
 refine⟨⟨hg,hw,hbook,h5,by omega⟩,by omega,hk,rfl,?_,fun x hx=>⟨fun q=>dis x (hp.mem_iff.mp q) (g3.subset hx),fun j e=>g1 j x e hx⟩,hb⟩
 rw[SW]
 exact(hn.sub hsub).perm ((ZQ hp).append_right _)
abbrev thX (w:List Th) (e:Option Str):List DS:=[.d (wD w),.d (MI e)]
def HU:FSp:=⟨fun xs M=>∃(w:List Th) (e:Option Str),xs=thX w e/\(∀t∈w,AH t.1)/\∀x,e=some x->AH x/\x∉BD w,fun xs M y M'=>y = .d .none/\M'=M⟩
theorem WO {e:Option Str}(h1:∀t∈w,AH t.1) (h2:∀x,e=some x->AH x/\x∉BD w) (q:Q (.d .none) M):(thX w e).length=2/\HU.pre (thX w e) M/\∀x M',HU.post (thX w e) M x M'->Q x M':=
 ⟨rfl,⟨w,e,rfl,h1,h2⟩,fun x M' hh=>by obtain⟨rfl,rfl⟩:=hh;exact q⟩
abbrev ZR (W w:List Th) (ls:List Ln) (h:Str) (D:Deed):List DS:=[.d (wD W),.d (AL w ls),.d (.str h),.d D.d]
def K7:FSp:=⟨fun xs M=>∃(W w:List Th) (ls:List Ln) (h:Str) (D:Deed),xs=ZR W w ls h D/\AH h/\goodB w ls/\goD W D/\(∀t∈w,AH t.1)/\∀x,D.made=some x->x∉BD w/\∀j,mkN (dsL ls) j≠some x,
 fun xs M y M'=>∀(W w:List Th) (ls:List Ln) (h:Str) (D:Deed),xs=ZR W w ls h D->y = .d (wD (K1 W D))/\M'=M⟩
theorem ZS {W:List Th}(h1:AH h) (h2:goodB w ls) (h3:goD W D) (h4:∀t∈w,AH t.1) (h5:∀x,D.made=some x->x∉BD w/\∀j,mkN (dsL ls) j≠some x) (q:Q (.d (wD (K1 W D))) M):(ZR W w ls h D).length=4/\K7.pre (ZR W w ls h D) M/\∀x M',K7.post (ZR W w ls h D) M x M'->Q x M':=
 ⟨rfl,⟨W,w,ls,h,D,rfl,h1,h2,h3,h4,h5⟩,fun x M' hh=>by obtain⟨rfl,rfl⟩:=hh W w ls h D rfl;exact q⟩
theorem A0j (hg:goodB w ls) (h:∀x,D.made=some x->∀j,mkN (dsL ls) j≠some x):(D.made.elim false fun k=>(B1 (mkL (dsL ls) 0) k).isSome)=false:=by
 cases e:D.made with
 | none=>rfl
 | some x=>
   rcases N7 (dsL ls) 0 hg.fresh.one x with ⟨a,_⟩ | ⟨j,a,_⟩
   · show(B1 (mkL (dsL ls) 0) x).isSome=false
     rw[a];rfl
   · exact absurd a (h x e j)
theorem nX (e:Option Str):MI e=e.elim .none .str:=by cases e <;> rfl
def NJ (ls:List Ln) (k:Nat) (D:Deed):List Nat:=(CG k ls.length).filter (L9 ls (JL D))
def E7 (ls:List Ln) (k:Nat) (D:Deed):List Nat:=c6 ls (NJ ls k D)
def J3 (ls:List Ln) (k:Nat) (D:Deed):List Nat:=(CG k ls.length).filter fun m=>!decide (m∈E7 ls k D)
def G9 (ls:List Ln) (k:Nat) (h:Str) (D:Deed):List Ln:=ls.take k++[(h,D)]++AV ls (J3 ls k D)
theorem fF {m:Nat}(hm:m∈J3 ls k D):m < ls.length:=(D5.mp (yL.mp hm).1).2
abbrev nY (w:List Th) (ls:List Ln) (k:Nat) (h:Str) (D:Deed):List DS:=[.d (AL w ls),.d (.int (k:Nat)),.d (.str h),.d D.d]
def NK:FSp:=⟨fun xs M=>∃(w:List Th) (ls:List Ln) (k:Nat) (h:Str) (D:Deed),xs=nY w ls k h D/\P53 w ls k D/\AH h,
 fun xs M y M'=>∀(w:List Th) (ls:List Ln) (k:Nat) (h:Str) (D:Deed),xs=nY w ls k h D->y = .d (.tuple [AL w (G9 ls k h D),chD (E7 ls k D)])/\M'=M⟩
theorem cG (h1:P53 w ls k D) (h2:AH h) (q:Q (.d (.tuple [AL w (G9 ls k h D),chD (E7 ls k D)])) M):(nY w ls k h D).length=4/\NK.pre (nY w ls k h D) M/\∀x M',NK.post (nY w ls k h D) M x M'->Q x M':=
 ⟨rfl,⟨w,ls,k,h,D,rfl,h1,h2⟩,fun x M' hh=>by obtain⟨rfl,rfl⟩:=hh w ls k h D rfl;exact q⟩
def HV:FSp:=⟨fun xs M=>∃h:Int,xs=[.d (.int h)]/\xJ h<=2 ^ 21,fun xs M y M'=>M'=M/\∃(w:List Th) (so sp:List Str),y = .d (.tuple [wD w,AQ so,AQ sp])/\DQ w/\(BD w).Perm so/\namesOK (so++sp)/\w.length<=5⟩
theorem WP {h:Int}(h1:xJ h<=2 ^ 21) (q:∀(w:List Th) (so sp:List Str),DQ w->(BD w).Perm so->namesOK (so++sp)->w.length<=5->Q (.d (.tuple [wD w,AQ so,AQ sp])) M):[DS.d (.int h)].length=1/\HV.pre [.d (.int h)] M/\∀x M',HV.post [.d (.int h)] M x M'->Q x M':=
 ⟨rfl,⟨h,rfl,h1⟩,fun x M' hh=>by obtain⟨rfl,w,so,sp,rfl,a,b,c,d⟩:=hh;exact q w so sp a b c d⟩
def HW:FSp:=⟨fun xs M=>∃(so sp:List Str) (cs:List Int),xs=lnX so sp cs/\namesOK (so++sp)/\(∀c∈cs,xJ c<=2 ^ 21)/\cs.length<=40,fun xs M y M'=>∀(so sp:List Str) (cs:List Int),xs=lnX so sp cs->M'=M/\∃(ls:List Ln) (so' sp':List Str),y = .d (.tuple [.list (ls.map AU),AQ so',AQ sp'])/\lnQ so sp cs ls so' sp'⟩
theorem WQ {cs:List Int}(h1:namesOK (so++sp)) (h2:∀c∈cs,xJ c<=2 ^ 21) (h3:cs.length<=40) (q:∀(ls:List Ln) (so' sp':List Str),lnQ so sp cs ls so' sp'->Q (.d (.tuple [.list (ls.map AU),AQ so',AQ sp'])) M):(lnX so sp cs).length=3/\HW.pre (lnX so sp cs) M/\∀x M',HW.post (lnX so sp cs) M x M'->Q x M':=
 ⟨rfl,⟨so,sp,cs,rfl,h1,h2,h3⟩,fun x M' hh=>by obtain⟨rfl,ls,so',sp',rfl,h⟩:=hh so sp cs rfl;exact q ls so' sp' h⟩
def HX (n:Nat):FSp:=⟨fun xs M=>∃ns:List Int,xs=[.d (.list (ns.map .int))]/\∀i∈ns,xJ i<=2 ^ 20,fun xs M y M'=>∃(w:List Th) (ls:List Ln) (k:Nat) (so sp:List Str) (p:Addr) (o:MO),y = .tl [AL w ls,.int (k:Nat),AQ so,AQ sp] p/\M p=none/\DN o/\M'=M.put p o/\A53 n w ls k so sp⟩
theorem WR {ns:List Int}(h1:∀i∈ns,xJ i<=2 ^ 20) (q:∀(w:List Th) (ls:List Ln) (k:Nat) (so sp:List Str) (p:Addr) (o:MO),M p=none->DN o->A53 n w ls k so sp->Q (.tl [AL w ls,.int (k:Nat),AQ so,AQ sp] p) (M.put p o)):[DS.d (.list (ns.map .int))].length=1/\(HX n).pre [.d (.list (ns.map .int))] M/\∀x M',(HX n).post [.d (.list (ns.map .int))] M x M'->Q x M':=
 ⟨rfl,⟨ns,rfl,h1⟩,fun x M' hh=>by obtain⟨w,ls,k,so,sp,p,o,rfl,a,b,rfl,c⟩:=hh;exact q w ls k so sp p o a b c⟩
end
end DL
namespace DL
open PySem PySem.Spec L2
theorem j1 {w:List Th}{ls:List Ln}{k:Nat}{h:Str}{D:Deed}(hP:P53 w ls k D) (hh:AH h):∀l∈G9 ls k h D,AH l.1/\l.2.real:=fun l hl=>by
 have hg:=hP.d.good
 unfold G9 at hl
 rcases yW.mp hl with q | q
 · rcases yW.mp q with q | q
   · have:=a8K q
     exact⟨hg.hands l this,hg.real l this⟩
   · rw[List.mem_singleton.mp q]
     exact⟨hh,hP.real⟩
 · have:=ZF q
   exact⟨hg.hands l this,hg.real l this⟩
end DL
namespace DL
open PySem PySem.Spec L2
section
variable {S:List Str}{Ds:List Deed}{D:Deed}{k:Nat}
theorem K8 (Ds:List Deed) (k j:Nat):(Ds.take k)[j]?=if j < k then Ds[j]? else none:=by
 rw[List.getElem?_take]
theorem WS {x:Str}{j:Nat}(h:mkN (Ds.take k) j=some x):mkN Ds j=some x/\j < k:=by
 unfold mkN at h ⊢
 rw[K8] at h
 split at h
 · exact⟨h,by assumption⟩
 · cases h
theorem sD {x:Str}{j:Nat}(h:enN (Ds.take k) j=some x):enN Ds j=some x/\j < k:=by
 unfold enN at h ⊢
 rw[K8] at h
 split at h
 · exact⟨h,by assumption⟩
 · cases h
theorem sE {x:Str}{j:Nat}(h:x∈wnN (Ds.take k) j):x∈wnN Ds j/\j < k:=by
 unfold wnN at h ⊢
 rw[K8] at h
 split at h
 · rename_i q
   split at q
   · rename_i hj
     rw[q];exact⟨h,hj⟩
   · cases q
 · cases h
theorem A0k {j:Nat}(h:j < k):mkN (Ds.take k) j=mkN Ds j/\enN (Ds.take k) j=enN Ds j/\wnN (Ds.take k) j=wnN Ds j:=by
 unfold mkN enN wnN;rw[K8,if_pos h];exact⟨rfl,rfl,rfl⟩
theorem fG (h:BkD S Ds) (k:Nat):BkD S (Ds.take k):=fun j=>by
 obtain⟨a,b⟩:=h j
 refine⟨fun x e=>?_,fun x hx=>?_⟩
 · obtain⟨e,hj⟩:=WS e
   exact⟨(a x e).1,fun i hi q=>(a x e).2 i hi (WS q).1⟩
 · obtain⟨hx,hj⟩:=sE hx
   exact⟨(b x hx).1.imp id fun⟨i,hi,e⟩=>⟨i,hi,by rw[(A0k (by omega)).1];exact e⟩,fun i hi q=>(b x hx).2 i hi (sD q).1⟩
theorem tR (h:BkD S Ds):∀k,k<=Ds.length->∃kn,StB S (stN S (Ds.take k)) kn (Ds.take k)
 | 0,_=>⟨S,⟨fun k=>by unfold mkN wnN;simp,fun x=>by simp[mkN],fun x=>by simp[enN,stN]⟩⟩
 | k+1,hk=>by
   obtain⟨kn,st⟩:=tR h k (by omega)
   have e:Ds.take (k+1)=Ds.take k++[Ds[k]]:=by rw[a5Q,zV (by omega)];rfl
   have hb:=fG h (k+1)
   rw[e] at hb ⊢
   obtain⟨_,hm,hw⟩:=QZ.mp hb
   rw[ZP]
   refine⟨_,st.step (NH.mpr ⟨fun x ex q=>?_,fun x hx=>(st.st_ x).mpr ⟨(st.kn_ x).mpr (hw x hx).1,(hw x hx).2⟩⟩)⟩
   rcases (st.kn_ x).mp q with c | ⟨j,c⟩
   · exact(hm x ex).1 c
   · exact(hm x ex).2 j c
end
section
variable {w:List Th}{ls:List Ln}{k:Nat}{D:Deed}
abbrev E2 (ls:List Ln) (k:Nat) (D:Deed):List Deed:=(dsL ls).take k++[D]
theorem V9 (h:k<=ls.length):(E2 ls k D).length=k+1:=by
 rw[yY,a0J,zX,a4Z h];rfl
theorem nZ (hP:P53 w ls k D) (hb:BkD (BD w) (dsL ls)):BkD (BD w) (E2 ls k D):=by
 have hl:(dsL ls).length=ls.length:=zX _
 obtain⟨kn,st⟩:=tR hb k (by rw[hl];exact hP.le)
 refine QZ.mpr ⟨fG hb k,fun x e=>⟨(hP.new x e).1,fun j q=>(hP.new x e).2 j (WS q).1⟩,fun x hx=>?_⟩
 have can:=hP.can
 rw[SW] at can
 have hm:x∈D.must:=by rw[QY hP.real];exact hx
 obtain⟨a,b⟩:=yL.mp hm
 have hs:=(st.st_ x).mp (J1 can a (of_decide_eq_true b))
 exact⟨(st.kn_ x).mp hs.1,hs.2⟩
theorem NL (h:k<=ls.length) {j:Nat}(hj:k<=j):mkN (E2 ls k D) j=(if j=k then D.made else none)/\enN (E2 ls k D) j=(if j=k then JL D else none):=by
 have hl:((dsL ls).take k).length=k:=by rw[a0J,zX,a4Z h]
 unfold mkN enN
 rw[E1,hl,if_neg (by omega)]
 split
 · exact⟨rfl,rfl⟩
 · exact⟨rfl,rfl⟩
theorem ES {s:List Nat}{m:Nat}:m∈(CG k ls.length).filter (fun m=>!decide (m∈s))↔(k<=m/\m < ls.length)/\m∉s:=by
 rw[yL,D5]
 simp
theorem o0 {m:Nat}(hg:goodB w ls):wnN (dsL ls) m=GM (dsL ls) m:=by
 unfold wnN GM
 cases h:(dsL ls)[m]? with
 | none=>rfl
 | some E=>
   obtain⟨l,hl,rfl⟩:=zL.mp (yN h)
   exact(QY (hg.real l hl)).symm
theorem ZT {m:Nat}(hg:goodB w ls):m∈NJ ls k D↔(k<=m/\m < ls.length)/\∃x,JL D=some x/\x∈wnN (dsL ls) m:=by
 unfold NJ
 rw[yL,D5,o0 hg]
 refine and_congr Iff.rfl ?_
 unfold L9
 cases JL D with
 | none=>simp
 | some y=>simp
theorem x9 (hP:P53 w ls k D) (hb:BkD (BD w) (dsL ls)):BkD (BD w) (E2 ls k D++AV (dsL ls) (J3 ls k D)):=by
 have hl:(dsL ls).length=ls.length:=zX _
 have hg:=hP.d.good
 have hlen:=V9 (D:=D) hP.le
 refine rQ (c:=k) (nZ hP hb) hb ?_ (by omega) ((ZM _ _).filter _) (fun m hm=>by rw[hl];exact(ES.mp hm).1) ?_ ?_ ?_
 · rw[List.take_append_of_le_length (by rw[a0J,hl];have:=hP.le;omega),List.take_take,Nat.min_self]
 · intro b hbm x e j hj q
   rw[(NL hP.le hj).1] at q
   split at q
   · exact(hP.new x q).2 b e
   · cases q
 · intro b hbm x hx j hj q
   rw[(NL hP.le hj).2] at q
   split at q
   · have hk:=ES.mp hbm
     exact hk.2 (FK (by rw[hl];exact hk.1.2) ((ZT hg).mpr ⟨hk.1,x,q,hx⟩))
   · cases q
 · intro b hbm x hx j hj hjb e
   have hk:=ES.mp hbm
   refine ES.mpr ⟨⟨hj,by omega⟩,fun q=>hk.2 ?_⟩
   refine(OW (by rw[hl];exact hk.1.2)).mpr (.inr ⟨j,?_,q⟩)
   unfold CF
   rw[o0 hg] at hx
   exact yL.mpr ⟨List.mem_range.mpr hjb,by unfold SJ;rw[e];exact decide_eq_true hx⟩
theorem WT {m:Nat}(h:m∈E7 ls k D):k<=m/\m < ls.length:=by
 have hl:(dsL ls).length=ls.length:=zX _
 have key:∀m,m < (dsL ls).length->m∈AN (dsL ls) (NJ ls k D) (dsL ls).length->k<=m:=by
   intro m
   induction m using Nat.strongRecOn with
   | _ m ih=>
     intro hm h
     rcases (OW hm).mp h with q | ⟨j,a,b⟩
     · exact(D5.mp (yL.mp q).1).1
     · exact zN (ih j (EH a) (xQ (EH a) hm) b) (xR (EH a))
 have h2:=HQ _ _ _ m h
 exact⟨key m h2 h,by rw[← hl];exact h2⟩
theorem j2 (hP:P53 w ls k D) (hb:BkD (BD w) (dsL ls)) {s:List Nat}(hs:∀m∈s,k<=m) (h:BkD (BD w) (E2 ls k D++AV (dsL ls) ((CG k ls.length).filter fun m=>!decide (m∈s)))):∀m∈E7 ls k D,m∈s:=by
 have hl:(dsL ls).length=ls.length:=zX _
 have hg:=hP.d.good
 have hlen:=V9 (D:=D) hP.le
 have hκ:∀m∈(CG k ls.length).filter (fun m=>!decide (m∈s)),m < (dsL ls).length:=fun m hm=>by rw[hl];exact(ES.mp hm).1.2
 have key:∀m,m < (dsL ls).length->m∈AN (dsL ls) (NJ ls k D) (dsL ls).length->m∈s:=by
   intro m
   induction m using Nat.strongRecOn with
   | _ m ih=>
     intro hm hf
     have hown:=WT (k:=k) (D:=D) hf
     by_cases hms:m∈s
     · exact hms
     exfalso
     have hmk:=(ES (ls:=ls)).mpr ⟨hown,hms⟩
     rcases (OW hm).mp hf with q | ⟨j,a,b⟩
     · obtain⟨_,x,e,hx⟩:=(ZT hg).mp q
       exact(nO h hκ hmk).2 x hx k (by rw[(NL hP.le (zR _)).2,if_pos rfl];exact e)
     · have hjs:=ih j (EH a) (xQ (EH a) hm) b
       have hjm:=EH a
       unfold CF at a
       have hn:=(yL.mp a).2
       unfold SJ at hn
       cases ej:mkN (dsL ls) j with
       | none=>rw[ej] at hn;cases hn
       | some x=>
         rw[ej] at hn
         have hx:x∈wnN (dsL ls) m:=by rw[o0 hg];exact of_decide_eq_true hn
         obtain⟨i,hi⟩:=b5Z hmk
         have hb2:=(h ((E2 ls k D).length+i)).2
         rw[(IR hκ hi).2.2] at hb2
         have one:=hg.fresh.one
         rcases (hb2 x hx).1 with c | ⟨i2,_,e2⟩
         · exact((hb j).1 x ej).1 c
         · by_cases hlt:i2 < (E2 ls k D).length
           · rw[(G8 hlt _).1] at e2
             by_cases h3:k<=i2
             · rw[(NL hP.le h3).1] at e2
               split at e2
               · exact(hP.new x e2).2 j ej
               · cases e2
             · have e3:mkN (E2 ls k D) i2=mkN (dsL ls) i2:=by
                 unfold mkN
                 rw[yQ (by rw[a0J,hl];have:=hP.le;omega),K8,if_pos (by omega)]
               rw[e3] at e2
               have:=one _ _ _ e2 ej
               have:=hs j hjs
               omega
           · obtain⟨i3,rfl⟩:∃i3,i2=(E2 ls k D).length+i3:=⟨i2 - (E2 ls k D).length,by omega⟩
             cases h4:((CG k ls.length).filter fun m=>!decide (m∈s))[i3]? with
             | none=>rw[(cD hκ h4).1] at e2;cases e2
             | some b3=>
               rw[(IR hκ h4).1] at e2
               have:=one _ _ _ e2 ej
               subst this
               exact(ES.mp (yN h4)).2 hjs
 exact fun m hm=>key m (by rw[hl];exact(WT hm).2) hm
theorem sF:E7 ls k D∈C0 (CG k ls.length):=by
 have e:E7 ls k D=(CG k ls.length).filter fun m=>decide (m∈E7 ls k D):=by
   refine nC (KO _ _ _) ((ZM _ _).filter _) fun x=>?_
   rw[yL,D5,decide_eq_true_iff]
   exact⟨fun h=>⟨WT h,h⟩,fun h=>h.2⟩
 rw[e]
 exact ZO _ _
end
end DL
namespace DL
open PySem PySem.Spec L2
def FnIn (K:Frg) (n:Str) (st:Stmt):Prop:=∃(f:Addr) (oc:Value) (od:Option Addr) (kV dc pm:Value) (an:Option Addr) (cd ct:Value) (sl:Array (Option Value)),a2Q K mainGlobals n=some (some (.ref f)) /\
 K.lookup f=some ⟨oc,od,.func (a8W n n (FD st) (DH st) (AB st) .none kV dc pm an cd ct),sl⟩/\b6W K cd n=true/\b0W K (.ref f)=true
theorem sG {K:Frg}{n:Str}{st:Stmt}{f:Addr}{oc:Value}{od:Option Addr}{kV dc pm:Value}{an:Option Addr}{cd ct:Value}{sl:Array (Option Value)}(a:a2Q K mainGlobals n=some (some (.ref f)))
   (l:K.lookup f=some ⟨oc,od,.func (a8W n n (FD st) (DH st) (AB st) .none kV dc pm an cd ct),sl⟩) (c:b6W K cd n=true) (k:b0W K (.ref f)=true):FnIn K n st:=⟨f,oc,od,kV,dc,pm,an,cd,ct,sl,a,l,c,k⟩
structure FnAt (K:Frg) (mg:Str->Option Value) (n:Str) (st:Stmt) (f:Addr) (fd:FuncData):Prop where
 fn:Fun K n n st f fd
 mg_:mg n=some (.ref f)
 kp:b0W K (.ref f)=true
theorem FnIn.at {K:Frg}{n:Str}{st:Stmt}{h:Heap}{mg:Str->Option Value}(b:FnIn K n st) (X:K.In h) (G:h.Ns mainGlobals mg):∃f fd,FnAt K mg n st f fd:=
 let ⟨f,_,_,_,_,_,_,_,_,_,a,l,c,k⟩:=b
 ⟨f,_,vA l c k,b8W X G a,k⟩
section
variable {P:Program}{w:World}{K:Frg}{mg:Str->Option Value}{base:Heap}{n:Str}{st:Stmt}{f:Addr}{fd:FuncData}{k:Nat}{ps:List Str}
abbrev xA (n:Str) (st:Stmt) (ps:List Str):Prop:=∀(kV doc pm:Value) (an:Option Addr) (cdv ct:Value) (us:List Value),us.length=ps.length->bindArgs (a8W n n (FD st) (DH st) (AB st) .none kV doc pm an cdv ct) ⟨us,[]⟩=pure (ps.zip us)
theorem FnAt.has {S:FSp}(a:FnAt K mg n st f fd) (h:FnOk P w K mg base CX0 k f fd ps (spD K ps.length S)) (b:xA n st ps):Has P w K mg base n k ps S:=⟨f,fd,h,a.mg_,a.kp,a.fn.binds b⟩
end
end DL
namespace DL
open PySem PySem.Spec L2
abbrev IS:Stmt:=_root_.sT 4
abbrev GO:Stmt:=_root_.sT 6
abbrev IT:Stmt:=_root_.sT 7
abbrev HY:Stmt:=_root_.sT 5
abbrev KS:Stmt:=_root_.sT 10
abbrev WU:Stmt:=_root_.sT 12
abbrev IU:Stmt:=_root_.sT 13
abbrev HZ:Stmt:=_root_.sT 11
abbrev KU:Stmt:=_root_.sT 14
abbrev IV:Stmt:=_root_.sT 15
abbrev E3:Stmt:=_root_.sT 16
abbrev GA:Stmt:=_root_.sT 26
abbrev BR:Stmt:=_root_.sT 27
abbrev GP:Stmt:=_root_.sT 33
abbrev CN:Stmt:=_root_.sT 31
abbrev NM:Stmt:=_root_.sT 32
abbrev WV:Stmt:=_root_.sT 29
abbrev GQ:Stmt:=_root_.sT 30
abbrev NN:Stmt:=_root_.sT 36
abbrev WW:Stmt:=_root_.sT 35
abbrev GB:Stmt:=_root_.sT 40
abbrev IA:Stmt:=_root_.sT 39
abbrev FL:Stmt:=_root_.sT 41
abbrev GR:Stmt:=_root_.sT 43
abbrev NO:Stmt:=_root_.sT 44
abbrev BH:Stmt:=_root_.sT 48
abbrev WX:Stmt:=_root_.sT 47
abbrev IB:Stmt:=_root_.sT 42
abbrev E4:Stmt:=_root_.sT 45
abbrev IW:Stmt:=_root_.sT 25
abbrev KW:Stmt:=_root_.sT 38
abbrev K9:Stmt:=_root_.sT 50
abbrev CV:Stmt:=_root_.sT 54
abbrev FM:Stmt:=_root_.sT 52
abbrev GS:Stmt:=_root_.sT 53
abbrev ET:Stmt:=_root_.sT 55
abbrev CW:Stmt:=_root_.sT 56
abbrev E5:Stmt:=_root_.sT 57
abbrev FN:Stmt:=_root_.sT 58
abbrev FO:Stmt:=_root_.sT 59
abbrev GT:Stmt:=_root_.sT 60
abbrev FP:Stmt:=_root_.sT 61
abbrev EI:Stmt:=_root_.sT 62
abbrev CY:Stmt:=_root_.sT 64
abbrev B6:Stmt:=_root_.sT 63
abbrev EU:Stmt:=_root_.sT 65
abbrev VA:Stmt:=_root_.sT 66
abbrev vS (x:String) (t:Tok):Value:=.str (a0Q x) t
abbrev eS (P:Params) (x:String) (t:Tok) (v:Value):DictEntry:=⟨a9K P (a0Q x),.str (a0Q x) t,v⟩
abbrev hs (i:Nat):Stmt:=PySem.Challenge.pw_struckdeeds_k55_whole_the_least_that_goe.main.body.getD i (.Pass ⟨0,0,0,0⟩)
abbrev fO (n q:String) (st:Stmt) (doc pm:Value) (c:Nat):Obj:=⟨.type "function", none,.func (a8W (a0Q n) (a0Q q) (FD st) (DH st) (AB st) .none .none doc pm none (.ref c) .none),#[]⟩
abbrev gO (n q:String) (st:Stmt):Obj:=⟨.none,none,.func (.mk (a0Q n) (a0Q q) (FD st) (.stmts (DH st)) (AB st) 0 [] .none .none .none .none none .none .none 0),#[]⟩
abbrev tO (vs:Array Value):Obj:=⟨.type "tuple", none,.seq vs 0,#[]⟩
abbrev kO (n q:String) (a b c:Tok) (l k f:Nat) (x1:Value) (t:Nat) (x2 x3 x4 x5:Value) (u l2:Nat) (d:Tok):Obj:=⟨.type "code", none,.fields #[vS n a,vS q b,vS "/claim/cut.py" c,.int l 0,.int k 0,.int 0 0,.int 0 0,.int f 0,x1,.bool true,.int t 0,x2,.none,x3,x4,x5,.int u 0,.int l2 0,vS "/claim/cut.py" d],#[]⟩
abbrev fP (n:String) (st:Stmt) (doc pm:Value) (c:Nat):Obj:=fO n n st doc pm c
abbrev gP (n:String) (st:Stmt):Obj:=gO n n st
abbrev kP (n:String) (a b c:Tok) (l k f:Nat) (x1:Value) (t:Nat) (x2 x3 x4 x5:Value) (u l2:Nat) (d:Tok):Obj:=kO n n a b c l k f x1 t x2 x3 x4 x5 u l2 d
abbrev nF (vs:Array Value):Obj:=⟨.none,none,.fields vs,#[]⟩
abbrev lF (l:List (Nat×Nat×Nat)):Obj:=nF (l.flatMap fun t=>[.int t.1 0,.int t.2.1 0,.ref t.2.2]).toArray
def hV:Program:={ PySem.Challenge.pw_struckdeeds_k55_whole_the_least_that_goe with main:={ PySem.Challenge.pw_struckdeeds_k55_whole_the_least_that_goe.main with body:=([1,2,3,4,5,6,7,9,10,11,12,13,14,15,16,18,19,20,21,22,23,25,26,27,29,30,31,32,33,35,36,38,39,40,41,42,43,44,45,47,48,50,52,53,54,55,56,57,58,59,60,61,62,63,64,65,66]:List Nat).map hs } }
abbrev hB:List Stmt:=PySem.W.behindTheImports PySem.Challenge.pw_struckdeeds_k55_whole_the_least_that_goe
def hN:Env:={ scope:=PySem.Challenge.pw_struckdeeds_k55_whole_the_least_that_goe.main.scope,locals:=mainNs,globals:=mainNs,cells:=[],code:=a0Z 13,frame:=some 14 }
abbrev hC:Code:=.body hB hN
abbrev hF:List Frame:=[PySem.W.topFrame { line:=0,col:=0,endLine:=0,endCol:=0 }]
abbrev hI (t:PySem.W.BT) (l:List (Nat×Obj)):PySem.W.BT:=l.foldl (fun t x=>t.ins x.1 x.2) t
noncomputable def hT0:Params->PySem.W.BT:=fun P=>hI .nil [(0,PySem.W.boot_o_0 P),(1,PySem.W.boot_o_1 P),(2,PySem.W.boot_o_2 P),(3,PySem.W.boot_o_3 P),(4,PySem.W.boot_o_4 P),(5,PySem.W.boot_o_5 P),(6,PySem.W.boot_o_6 P),(7,PySem.W.boot_o_7 P),(8,PySem.W.boot_o_8 P),(9,PySem.W.boot_o_9 P),(10,PySem.W.boot_o_10 P)]
noncomputable def hT1:Params->PySem.W.BT:=fun P=>hI (hT0 P) (
 (11,tO #[]) ::
 (12,nF #[]) ::
 (13,(⟨(.type "code"),none,(.fields #[(vS "<module>" 182),(vS "<module>" 183),(vS "/claim/cut.py" 184),(.int 1 0),(.int 0 0),(.int 0 0),(.int 0 0),(.int 0 0),(.ref 11),(.bool false),(.int 181 0),(.ref 12),.none,.none,.none,.none,(.int 185 0),(.int 1 0),(vS "/claim/cut.py" 186)]),#[]⟩:Obj)) ::
 (14,(⟨(.type "frame"),none,.plain,#[(some (.ref 13)),(some (.ref 3)),(some (.ref 3)),none,(some (vS "__main__" 164)),none,(some (.ref 0))]⟩:Obj))::[])
noncomputable abbrev hX1 (w:World) (os:OsState):PySem.W.SharedT:=⟨hT1 w.params,15,{ },⟨[]⟩,{ },187,os⟩
noncomputable abbrev hX2 (w:World) (os:OsState):PySem.W.SharedT:=⟨hT1 w.params,15,{ },⟨[]⟩,{ },187,os⟩
def hD3:Params->List DictEntry:=fun P=>[eS P "__name__" 165 (vS "struckdeeds.errors" 296),eS P "__doc__" 166 .none,eS P "__package__" 167 .none,eS P "__loader__" 168 (.builtin "__main__.__loader__#opaque"),eS P "__spec__" 169 .none,eS P "__annotations__" 170 (.ref 6),eS P "__builtins__" 171 (.ref 4),eS P "__file__" 173 (vS "/claim/cut.py" 172),eS P "__cached__" 174 .none,eS P "LETTERS" 190 (vS "abcdefghijklmnopqrstuvwxyz" 189),eS P "LONGEST_NAME" 192 (.int 8 191),eS P "LAST_PLACE" 194 (.int 999 193),eS P "is_whole" 201 (.ref 21),eS P "is_name" 207 (.ref 26),eS P "is_within" 216 (.ref 33),eS P "is_place" 223 (.ref 40),eS P "FORMS" 247 (.ref 41),eS P "form_of" 254 (.ref 48),eS P "is_deed" 260 (.ref 53),eS P "fits" 268 (.ref 60),eS P "names_in" 275 (.ref 67),eS P "made_by" 282 (.ref 74),eS P "ended_by" 289 (.ref 81),eS P "must_stand" 295 (.ref 86),eS P "StrikeError" 315 (.ref 96)]
noncomputable def hT3:Params->PySem.W.BT:=fun P=>hI (hT1 P) (
 (3,(⟨.type "dict", none,.dict (hD3 P).toArray 25,#[]⟩:Obj)) ::
 (12,lF [(5,0,20),(7,0,25),(11,0,32),(13,0,39),(17,0,47),(19,0,52),(29,0,59),(35,0,66),(37,0,73),(43,0,80),(49,0,85),(53,0,92)]) ::
 (15,tO #[]) ::
 (16,nF #[]) ::
 (17,tO #[(vS "thing" 198)]) ::
 (18,tO #[]) ::
 (19,gP "is_whole" (hs 4)) ::
 (20,kP "is_whole" 195 196 197 5 1 3 (.ref 15) 181 (.ref 16) (.ref 17) (.ref 18) (.ref 19) 199 5 200) ::
 (21,fP "is_whole" (hs 4) .none (vS "struckdeeds.words" 187) 20) ::
 (22,tO #[]) ::
 (23,nF #[]) ::
 (24,gP "is_name" (hs 5)) ::
 (25,kP "is_name" 202 203 204 7 1 3 (.ref 22) 181 (.ref 23) .none .none (.ref 24) 205 7 206) ::
 (26,fP "is_name" (hs 5) .none (vS "struckdeeds.words" 187) 25) ::
 (27,tO #[]) ::
 (28,nF #[]) ::
 (29,tO #[(vS "thing" 211),(vS "low" 212),(vS "high" 213)]) ::
 (30,tO #[]) ::
 (31,gP "is_within" (hs 6)) ::
 (32,kP "is_within" 208 209 210 11 3 3 (.ref 27) 181 (.ref 28) (.ref 29) (.ref 30) (.ref 31) 214 11 215) ::
 (33,fP "is_within" (hs 6) .none (vS "struckdeeds.words" 187) 32) ::
 (34,tO #[]) ::
 (35,nF #[]) ::
 (36,tO #[(vS "thing" 220)]) ::
 (37,tO #[]) ::
 (38,gP "is_place" (hs 7)) ::
 (39,kP "is_place" 217 218 219 13 1 3 (.ref 34) 181 (.ref 35) (.ref 36) (.ref 37) (.ref 38) 221 13 222) ::
 (40,fP "is_place" (hs 7) .none (vS "struckdeeds.words" 187) 39) ::
 (41,(⟨(.type "dict"),none,(.dict #[eS P "put" 226 (vS "npk" 227),eS P "take" 228 (vS "n" 229),eS P "move" 230 (vS "np" 231),eS P "count" 232 (vS "nk" 233),eS P "name" 234 (vS "nn" 235),eS P "split" 236 (vS "nnpk" 237),eS P "join" 238 (vS "nn" 239)] 7),#[]⟩:Obj)) ::
 (42,tO #[]) ::
 (43,nF #[]) ::
 (44,tO #[(vS "word" 251)]) ::
 (45,tO #[]) ::
 (46,gP "form_of" (hs 10)) ::
 (47,kP "form_of" 248 249 250 17 1 3 (.ref 42) 181 (.ref 43) (.ref 44) (.ref 45) (.ref 46) 252 17 253) ::
 (48,fP "form_of" (hs 10) .none (vS "struckdeeds.deeds" 224) 47) ::
 (49,tO #[]) ::
 (50,nF #[]) ::
 (51,gP "is_deed" (hs 11)) ::
 (52,kP "is_deed" 255 256 257 19 1 3 (.ref 49) 181 (.ref 50) .none .none (.ref 51) 258 19 259) ::
 (53,fP "is_deed" (hs 11) .none (vS "struckdeeds.deeds" 224) 52) ::
 (54,tO #[]) ::
 (55,nF #[]) ::
 (56,tO #[(vS "sign" 264),(vS "part" 265)]) ::
 (57,tO #[]) ::
 (58,gP "fits" (hs 12)) ::
 (59,kP "fits" 261 262 263 29 2 3 (.ref 54) 181 (.ref 55) (.ref 56) (.ref 57) (.ref 58) 266 29 267) ::
 (60,fP "fits" (hs 12) .none (vS "struckdeeds.deeds" 224) 59) ::
 (61,tO #[]) ::
 (62,nF #[]) ::
 (63,tO #[(vS "deed" 272)]) ::
 (64,tO #[]) ::
 (65,gP "names_in" (hs 13)) ::
 (66,kP "names_in" 269 270 271 35 1 3 (.ref 61) 181 (.ref 62) (.ref 63) (.ref 64) (.ref 65) 273 35 274) ::
 (67,fP "names_in" (hs 13) .none (vS "struckdeeds.deeds" 224) 66) ::
 (68,tO #[]) ::
 (69,nF #[]) ::
 (70,tO #[(vS "deed" 279)]) ::
 (71,tO #[]) ::
 (72,gP "made_by" (hs 14)) ::
 (73,kP "made_by" 276 277 278 37 1 3 (.ref 68) 181 (.ref 69) (.ref 70) (.ref 71) (.ref 72) 280 37 281) ::
 (74,fP "made_by" (hs 14) .none (vS "struckdeeds.deeds" 224) 73) ::
 (75,tO #[]) ::
 (76,nF #[]) ::
 (77,tO #[(vS "deed" 286)]) ::
 (78,tO #[]) ::
 (79,gP "ended_by" (hs 15)) ::
 (80,kP "ended_by" 283 284 285 43 1 3 (.ref 75) 181 (.ref 76) (.ref 77) (.ref 78) (.ref 79) 287 43 288) ::
 (81,fP "ended_by" (hs 15) .none (vS "struckdeeds.deeds" 224) 80) ::
 (82,tO #[]) ::
 (83,nF #[]) ::
 (84,gP "must_stand" (hs 16)) ::
 (85,kP "must_stand" 290 291 292 49 1 3 (.ref 82) 181 (.ref 83) .none .none (.ref 84) 293 49 294) ::
 (86,fP "must_stand" (hs 16) .none (vS "struckdeeds.deeds" 224) 85) ::
 (87,tO #[(.type "ValueError")]) ::
 (88,(⟨(.type "builtin_function_or_method"),none,(.fields #[(.builtin "type.__prepare__"),(.type "type")]),#[]⟩:Obj)) ::
 (89,(⟨(.type "dict"),none,(.dict #[eS P "__module__" 305 (vS "struckdeeds.errors" 296),eS P "__qualname__" 307 (vS "StrikeError" 306),eS P "__firstlineno__" 309 (.int 53 308),eS P "__static_attributes__" 310 (.ref 94)] 4),#[]⟩:Obj)) ::
 (90,tO #[]) ::
 (91,nF #[]) ::
 (92,(⟨(.type "code"),none,(.fields #[(vS "StrikeError" 300),(vS "StrikeError" 301),(vS "/claim/cut.py" 302),(.int 53 0),(.int 0 0),(.int 0 0),(.int 0 0),(.int 0 0),(.ref 90),(.bool false),(.int 181 0),(.ref 91),.none,.none,.none,.none,(.int 303 0),(.int 53 0),(vS "/claim/cut.py" 304)]),#[]⟩:Obj)) ::
 (93,(⟨(.type "frame"),none,.plain,#[(some (.ref 92)),(some (.ref 3)),(some (.ref 89)),none,(some (vS "struckdeeds.errors" 296)),none,(some (.ref 0))]⟩:Obj)) ::
 (94,tO #[]) ::
 (95,(⟨(.type "dict"),none,(.dict #[eS P "__module__" 305 (vS "struckdeeds.errors" 296),eS P "__firstlineno__" 309 (.int 53 308),eS P "__static_attributes__" 310 (.ref 94),eS P "__weakref__" 312 (.ref 97),eS P "__doc__" 313 .none] 3),#[]⟩:Obj)) ::
 (96,(⟨(.type "type"),none,(.cls (.mk "StrikeError" [(.type "ValueError")] [(.ref 96),(.type "ValueError"),(.type "Exception"),(.type "BaseException"),(.type "object")] 95 "StrikeError" true [] [] false none false)),#[(some (.ref 87)),none,(some (vS "StrikeError" 298)),(some (vS "StrikeError" 306)),(some (.builtin "ValueError.__new__")),(some (.bool true))]⟩:Obj)) ::
 (97,(⟨(.type "getset_descriptor"),none,(.fields #[(vS "__weakref__" 311),(.ref 96),(.builtin "ExceptionGroup.__weakref__"),.none]),#[]⟩:Obj)) ::
 (98,(⟨(.type "super"),none,(.fields #[(.ref 96),(.ref 96),(.ref 96)]),#[]⟩:Obj)) ::
 (99,(⟨(.type "builtin_function_or_method"),none,(.fields #[(.builtin "object.__init_subclass__"),(.ref 96)]),#[]⟩:Obj))::[])
noncomputable abbrev hX3 (w:World) (os:OsState):PySem.W.SharedT:=⟨hT3 w.params,100,{ },⟨[]⟩,{ },316,os⟩
def hD4:Params->List DictEntry:=fun P=>hD3 P++[eS P "NoDeed" 331 (.ref 109),eS P "NotNow" 356 (.ref 128),eS P "NoRow" 381 (.ref 147)]
noncomputable def hT4:Params->PySem.W.BT:=fun P=>hI (hT3 P) (
 (3,(⟨.type "dict", none,.dict (hD4 P).toArray 28,#[]⟩:Obj)) ::
 (12,lF [(5,0,20),(7,0,25),(11,0,32),(13,0,39),(17,0,47),(19,0,52),(29,0,59),(35,0,66),(37,0,73),(43,0,80),(49,0,85),(53,0,92),(55,0,105),(57,0,117),(61,0,136)]) ::
 (96,(⟨(.type "type"),none,(.cls (.mk "StrikeError" [(.type "ValueError")] [(.ref 96),(.type "ValueError"),(.type "Exception"),(.type "BaseException"),(.type "object")] 95 "StrikeError" true [] [(.ref 109),(.ref 128),(.ref 147)] false none false)),#[(some (.ref 87)),none,(some (vS "StrikeError" 298)),(some (vS "StrikeError" 306)),(some (.builtin "ValueError.__new__")),(some (.bool true))]⟩:Obj)) ::
 (100,tO #[(.ref 96)]) ::
 (101,(⟨(.type "builtin_function_or_method"),none,(.fields #[(.builtin "type.__prepare__"),(.type "type")]),#[]⟩:Obj)) ::
 (102,(⟨(.type "dict"),none,(.dict #[eS P "__module__" 323 (vS "struckdeeds.errors" 296),eS P "__qualname__" 325 (vS "NoDeed" 324),eS P "__firstlineno__" 327 (.int 55 326),eS P "__static_attributes__" 328 (.ref 107)] 4),#[]⟩:Obj)) ::
 (103,tO #[]) ::
 (104,nF #[]) ::
 (105,(⟨(.type "code"),none,(.fields #[(vS "NoDeed" 318),(vS "NoDeed" 319),(vS "/claim/cut.py" 320),(.int 55 0),(.int 0 0),(.int 0 0),(.int 0 0),(.int 0 0),(.ref 103),(.bool false),(.int 181 0),(.ref 104),.none,.none,.none,.none,(.int 321 0),(.int 55 0),(vS "/claim/cut.py" 322)]),#[]⟩:Obj)) ::
 (106,(⟨(.type "frame"),none,.plain,#[(some (.ref 105)),(some (.ref 3)),(some (.ref 102)),none,(some (vS "struckdeeds.errors" 296)),none,(some (.ref 0))]⟩:Obj)) ::
 (107,tO #[]) ::
 (108,(⟨(.type "dict"),none,(.dict #[eS P "__module__" 323 (vS "struckdeeds.errors" 296),eS P "__firstlineno__" 327 (.int 55 326),eS P "__static_attributes__" 328 (.ref 107),eS P "__doc__" 329 .none] 2),#[]⟩:Obj)) ::
 (109,(⟨(.type "type"),none,(.cls (.mk "NoDeed" [(.ref 96)] [(.ref 109),(.ref 96),(.type "ValueError"),(.type "Exception"),(.type "BaseException"),(.type "object")] 108 "NoDeed" true [] [] false none false)),#[(some (.ref 100)),none,(some (vS "NoDeed" 316)),(some (vS "NoDeed" 324)),(some (.builtin "ValueError.__new__")),(some (.bool true))]⟩:Obj)) ::
 (110,(⟨(.type "super"),none,(.fields #[(.ref 109),(.ref 109),(.ref 109)]),#[]⟩:Obj)) ::
 (111,(⟨(.type "builtin_function_or_method"),none,(.fields #[(.builtin "object.__init_subclass__"),(.ref 109)]),#[]⟩:Obj)) ::
 (112,tO #[(.ref 96)]) ::
 (113,(⟨(.type "builtin_function_or_method"),none,(.fields #[(.builtin "type.__prepare__"),(.type "type")]),#[]⟩:Obj)) ::
 (114,(⟨(.type "dict"),none,(.dict #[eS P "__module__" 339 (vS "struckdeeds.errors" 296),eS P "__qualname__" 341 (vS "NotNow" 340),eS P "__firstlineno__" 343 (.int 57 342),eS P "__init__" 351 (.ref 125),eS P "__static_attributes__" 353 (.ref 126)] 5),#[]⟩:Obj)) ::
 (115,tO #[]) ::
 (116,lF [(59,4,124)]) ::
 (117,(⟨(.type "code"),none,(.fields #[(vS "NotNow" 334),(vS "NotNow" 335),(vS "/claim/cut.py" 336),(.int 57 0),(.int 0 0),(.int 0 0),(.int 0 0),(.int 0 0),(.ref 115),(.bool false),(.int 181 0),(.ref 116),.none,.none,.none,.none,(.int 337 0),(.int 57 0),(vS "/claim/cut.py" 338)]),#[]⟩:Obj)) ::
 (118,(⟨(.type "frame"),none,.plain,#[(some (.ref 117)),(some (.ref 3)),(some (.ref 114)),none,(some (vS "struckdeeds.errors" 296)),none,(some (.ref 0))]⟩:Obj)) ::
 (119,tO #[]) ::
 (120,nF #[]) ::
 (121,tO #[(vS "self" 347),(vS "name" 348)]) ::
 (122,tO #[]) ::
 (123,gO "__init__" "NotNow.__init__" (PD 0 (hs 20))) ::
 (124,kO "__init__" "NotNow.__init__" 344 345 346 59 2 3 (.ref 119) 181 (.ref 120) (.ref 121) (.ref 122) (.ref 123) 349 59 350) ::
 (125,fO "__init__" "NotNow.__init__" (PD 0 (hs 20)) .none (vS "struckdeeds.errors" 296) 124) ::
 (126,tO #[(vS "name" 352)]) ::
 (127,(⟨(.type "dict"),none,(.dict #[eS P "__module__" 339 (vS "struckdeeds.errors" 296),eS P "__firstlineno__" 343 (.int 57 342),eS P "__init__" 351 (.ref 125),eS P "__static_attributes__" 353 (.ref 126),eS P "__doc__" 354 .none] 2),#[]⟩:Obj)) ::
 (128,(⟨(.type "type"),none,(.cls (.mk "NotNow" [(.ref 96)] [(.ref 128),(.ref 96),(.type "ValueError"),(.type "Exception"),(.type "BaseException"),(.type "object")] 127 "NotNow" true [] [] false none false)),#[(some (.ref 112)),none,(some (vS "NotNow" 332)),(some (vS "NotNow" 340)),(some (.builtin "ValueError.__new__")),(some (.bool true))]⟩:Obj)) ::
 (129,(⟨(.type "super"),none,(.fields #[(.ref 128),(.ref 128),(.ref 128)]),#[]⟩:Obj)) ::
 (130,(⟨(.type "builtin_function_or_method"),none,(.fields #[(.builtin "object.__init_subclass__"),(.ref 128)]),#[]⟩:Obj)) ::
 (131,tO #[(.ref 96)]) ::
 (132,(⟨(.type "builtin_function_or_method"),none,(.fields #[(.builtin "type.__prepare__"),(.type "type")]),#[]⟩:Obj)) ::
 (133,(⟨(.type "dict"),none,(.dict #[eS P "__module__" 364 (vS "struckdeeds.errors" 296),eS P "__qualname__" 366 (vS "NoRow" 365),eS P "__firstlineno__" 368 (.int 61 367),eS P "__init__" 376 (.ref 144),eS P "__static_attributes__" 378 (.ref 145)] 5),#[]⟩:Obj)) ::
 (134,tO #[]) ::
 (135,lF [(63,4,143)]) ::
 (136,(⟨(.type "code"),none,(.fields #[(vS "NoRow" 359),(vS "NoRow" 360),(vS "/claim/cut.py" 361),(.int 61 0),(.int 0 0),(.int 0 0),(.int 0 0),(.int 0 0),(.ref 134),(.bool false),(.int 181 0),(.ref 135),.none,.none,.none,.none,(.int 362 0),(.int 61 0),(vS "/claim/cut.py" 363)]),#[]⟩:Obj)) ::
 (137,(⟨(.type "frame"),none,.plain,#[(some (.ref 136)),(some (.ref 3)),(some (.ref 133)),none,(some (vS "struckdeeds.errors" 296)),none,(some (.ref 0))]⟩:Obj)) ::
 (138,tO #[]) ::
 (139,nF #[]) ::
 (140,tO #[(vS "self" 372),(vS "number" 373)]) ::
 (141,tO #[]) ::
 (142,gO "__init__" "NoRow.__init__" (PD 0 (hs 21))) ::
 (143,kO "__init__" "NoRow.__init__" 369 370 371 63 2 3 (.ref 138) 181 (.ref 139) (.ref 140) (.ref 141) (.ref 142) 374 63 375) ::
 (144,fO "__init__" "NoRow.__init__" (PD 0 (hs 21)) .none (vS "struckdeeds.errors" 296) 143) ::
 (145,tO #[(vS "number" 377)]) ::
 (146,(⟨(.type "dict"),none,(.dict #[eS P "__module__" 364 (vS "struckdeeds.errors" 296),eS P "__firstlineno__" 368 (.int 61 367),eS P "__init__" 376 (.ref 144),eS P "__static_attributes__" 378 (.ref 145),eS P "__doc__" 379 .none] 2),#[]⟩:Obj)) ::
 (147,(⟨(.type "type"),none,(.cls (.mk "NoRow" [(.ref 96)] [(.ref 147),(.ref 96),(.type "ValueError"),(.type "Exception"),(.type "BaseException"),(.type "object")] 146 "NoRow" true [] [] false none false)),#[(some (.ref 131)),none,(some (vS "NoRow" 357)),(some (vS "NoRow" 365)),(some (.builtin "ValueError.__new__")),(some (.bool true))]⟩:Obj)) ::
 (148,(⟨(.type "super"),none,(.fields #[(.ref 147),(.ref 147),(.ref 147)]),#[]⟩:Obj)) ::
 (149,(⟨(.type "builtin_function_or_method"),none,(.fields #[(.builtin "object.__init_subclass__"),(.ref 147)]),#[]⟩:Obj))::[])
noncomputable abbrev hX4 (w:World) (os:OsState):PySem.W.SharedT:=⟨hT4 w.params,150,{ },⟨[]⟩,{ },382,os⟩
def hD5:Params->List DictEntry:=fun P=>(hD4 P).set 0 (eS P "__name__" 165 (vS "struckdeeds.doings" 457))++[eS P "NoLine" 406 (.ref 166),eS P "NoName" 431 (.ref 185),eS P "thing_of" 444 (.ref 194),eS P "by_names" 450 (.ref 199),eS P "rising_by_names" 456 (.ref 204),eS P "done" 467 (.ref 211),eS P "back_deed" 478 (.ref 218),eS P "refuse_undoable" 488 (.ref 225),eS P "change" 498 (.ref 232)]
noncomputable def hT5:Params->PySem.W.BT:=fun P=>hI (hT4 P) (
 (3,(⟨.type "dict", none,.dict (hD5 P).toArray 37,#[]⟩:Obj)) ::
 (12,lF [(5,0,20),(7,0,25),(11,0,32),(13,0,39),(17,0,47),(19,0,52),(29,0,59),(35,0,66),(37,0,73),(43,0,80),(49,0,85),(53,0,92),(55,0,105),(57,0,117),(61,0,136),(65,0,155),(69,0,174),(74,0,193),(79,0,198),(81,0,203),(84,0,210),(89,0,217),(106,0,224),(113,0,231)]) ::
 (96,(⟨(.type "type"),none,(.cls (.mk "StrikeError" [(.type "ValueError")] [(.ref 96),(.type "ValueError"),(.type "Exception"),(.type "BaseException"),(.type "object")] 95 "StrikeError" true [] [(.ref 109),(.ref 128),(.ref 147),(.ref 166),(.ref 185)] false none false)),#[(some (.ref 87)),none,(some (vS "StrikeError" 298)),(some (vS "StrikeError" 306)),(some (.builtin "ValueError.__new__")),(some (.bool true))]⟩:Obj)) ::
 (150,tO #[(.ref 96)]) ::
 (151,(⟨(.type "builtin_function_or_method"),none,(.fields #[(.builtin "type.__prepare__"),(.type "type")]),#[]⟩:Obj)) ::
 (152,(⟨(.type "dict"),none,(.dict #[eS P "__module__" 389 (vS "struckdeeds.errors" 296),eS P "__qualname__" 391 (vS "NoLine" 390),eS P "__firstlineno__" 393 (.int 65 392),eS P "__init__" 401 (.ref 163),eS P "__static_attributes__" 403 (.ref 164)] 5),#[]⟩:Obj)) ::
 (153,tO #[]) ::
 (154,lF [(67,4,162)]) ::
 (155,(⟨(.type "code"),none,(.fields #[(vS "NoLine" 384),(vS "NoLine" 385),(vS "/claim/cut.py" 386),(.int 65 0),(.int 0 0),(.int 0 0),(.int 0 0),(.int 0 0),(.ref 153),(.bool false),(.int 181 0),(.ref 154),.none,.none,.none,.none,(.int 387 0),(.int 65 0),(vS "/claim/cut.py" 388)]),#[]⟩:Obj)) ::
 (156,(⟨(.type "frame"),none,.plain,#[(some (.ref 155)),(some (.ref 3)),(some (.ref 152)),none,(some (vS "struckdeeds.errors" 296)),none,(some (.ref 0))]⟩:Obj)) ::
 (157,tO #[]) ::
 (158,nF #[]) ::
 (159,tO #[(vS "self" 397),(vS "line" 398)]) ::
 (160,tO #[]) ::
 (161,gO "__init__" "NoLine.__init__" (PD 0 (hs 22))) ::
 (162,kO "__init__" "NoLine.__init__" 394 395 396 67 2 3 (.ref 157) 181 (.ref 158) (.ref 159) (.ref 160) (.ref 161) 399 67 400) ::
 (163,fO "__init__" "NoLine.__init__" (PD 0 (hs 22)) .none (vS "struckdeeds.errors" 296) 162) ::
 (164,tO #[(vS "line" 402)]) ::
 (165,(⟨(.type "dict"),none,(.dict #[eS P "__module__" 389 (vS "struckdeeds.errors" 296),eS P "__firstlineno__" 393 (.int 65 392),eS P "__init__" 401 (.ref 163),eS P "__static_attributes__" 403 (.ref 164),eS P "__doc__" 404 .none] 2),#[]⟩:Obj)) ::
 (166,(⟨(.type "type"),none,(.cls (.mk "NoLine" [(.ref 96)] [(.ref 166),(.ref 96),(.type "ValueError"),(.type "Exception"),(.type "BaseException"),(.type "object")] 165 "NoLine" true [] [] false none false)),#[(some (.ref 150)),none,(some (vS "NoLine" 382)),(some (vS "NoLine" 390)),(some (.builtin "ValueError.__new__")),(some (.bool true))]⟩:Obj)) ::
 (167,(⟨(.type "super"),none,(.fields #[(.ref 166),(.ref 166),(.ref 166)]),#[]⟩:Obj)) ::
 (168,(⟨(.type "builtin_function_or_method"),none,(.fields #[(.builtin "object.__init_subclass__"),(.ref 166)]),#[]⟩:Obj)) ::
 (169,tO #[(.ref 96)]) ::
 (170,(⟨(.type "builtin_function_or_method"),none,(.fields #[(.builtin "type.__prepare__"),(.type "type")]),#[]⟩:Obj)) ::
 (171,(⟨(.type "dict"),none,(.dict #[eS P "__module__" 414 (vS "struckdeeds.errors" 296),eS P "__qualname__" 416 (vS "NoName" 415),eS P "__firstlineno__" 418 (.int 69 417),eS P "__init__" 426 (.ref 182),eS P "__static_attributes__" 428 (.ref 183)] 5),#[]⟩:Obj)) ::
 (172,tO #[]) ::
 (173,lF [(71,4,181)]) ::
 (174,(⟨(.type "code"),none,(.fields #[(vS "NoName" 409),(vS "NoName" 410),(vS "/claim/cut.py" 411),(.int 69 0),(.int 0 0),(.int 0 0),(.int 0 0),(.int 0 0),(.ref 172),(.bool false),(.int 181 0),(.ref 173),.none,.none,.none,.none,(.int 412 0),(.int 69 0),(vS "/claim/cut.py" 413)]),#[]⟩:Obj)) ::
 (175,(⟨(.type "frame"),none,.plain,#[(some (.ref 174)),(some (.ref 3)),(some (.ref 171)),none,(some (vS "struckdeeds.errors" 296)),none,(some (.ref 0))]⟩:Obj)) ::
 (176,tO #[]) ::
 (177,nF #[]) ::
 (178,tO #[(vS "self" 422),(vS "name" 423)]) ::
 (179,tO #[]) ::
 (180,gO "__init__" "NoName.__init__" (PD 0 (hs 23))) ::
 (181,kO "__init__" "NoName.__init__" 419 420 421 71 2 3 (.ref 176) 181 (.ref 177) (.ref 178) (.ref 179) (.ref 180) 424 71 425) ::
 (182,fO "__init__" "NoName.__init__" (PD 0 (hs 23)) .none (vS "struckdeeds.errors" 296) 181) ::
 (183,tO #[(vS "name" 427)]) ::
 (184,(⟨(.type "dict"),none,(.dict #[eS P "__module__" 414 (vS "struckdeeds.errors" 296),eS P "__firstlineno__" 418 (.int 69 417),eS P "__init__" 426 (.ref 182),eS P "__static_attributes__" 428 (.ref 183),eS P "__doc__" 429 .none] 2),#[]⟩:Obj)) ::
 (185,(⟨(.type "type"),none,(.cls (.mk "NoName" [(.ref 96)] [(.ref 185),(.ref 96),(.type "ValueError"),(.type "Exception"),(.type "BaseException"),(.type "object")] 184 "NoName" true [] [] false none false)),#[(some (.ref 169)),none,(some (vS "NoName" 407)),(some (vS "NoName" 415)),(some (.builtin "ValueError.__new__")),(some (.bool true))]⟩:Obj)) ::
 (186,(⟨(.type "super"),none,(.fields #[(.ref 185),(.ref 185),(.ref 185)]),#[]⟩:Obj)) ::
 (187,(⟨(.type "builtin_function_or_method"),none,(.fields #[(.builtin "object.__init_subclass__"),(.ref 185)]),#[]⟩:Obj)) ::
 (188,tO #[]) ::
 (189,nF #[]) ::
 (190,tO #[(vS "world" 437),(vS "name" 438),(vS "standing" 439),(vS "place" 440),(vS "count" 441)]) ::
 (191,tO #[]) ::
 (192,gP "thing_of" (hs 25)) ::
 (193,kP "thing_of" 434 435 436 74 2 3 (.ref 188) 181 (.ref 189) (.ref 190) (.ref 191) (.ref 192) 442 74 443) ::
 (194,fP "thing_of" (hs 25) .none (vS "struckdeeds.worlds" 432) 193) ::
 (195,tO #[]) ::
 (196,nF #[]) ::
 (197,gP "by_names" (hs 26)) ::
 (198,kP "by_names" 445 446 447 79 1 3 (.ref 195) 181 (.ref 196) .none .none (.ref 197) 448 79 449) ::
 (199,fP "by_names" (hs 26) .none (vS "struckdeeds.worlds" 432) 198) ::
 (200,tO #[]) ::
 (201,nF #[]) ::
 (202,gP "rising_by_names" (hs 27)) ::
 (203,kP "rising_by_names" 451 452 453 81 1 3 (.ref 200) 181 (.ref 201) .none .none (.ref 202) 454 81 455) ::
 (204,fP "rising_by_names" (hs 27) .none (vS "struckdeeds.worlds" 432) 203) ::
 (205,tO #[]) ::
 (206,nF #[]) ::
 (207,tO #[(vS "world" 462),(vS "deed" 463),(vS "things" 464)]) ::
 (208,tO #[]) ::
 (209,gP "done" (hs 29)) ::
 (210,kP "done" 459 460 461 84 2 3 (.ref 205) 181 (.ref 206) (.ref 207) (.ref 208) (.ref 209) 465 84 466) ::
 (211,fP "done" (hs 29) .none (vS "struckdeeds.doings" 457) 210) ::
 (212,tO #[]) ::
 (213,nF #[]) ::
 (214,tO #[(vS "world" 471),(vS "deed" 472),(vS "things" 473),(vS "word" 474),(vS "name" 475)]) ::
 (215,tO #[]) ::
 (216,gP "back_deed" (hs 30)) ::
 (217,kP "back_deed" 468 469 470 89 2 3 (.ref 212) 181 (.ref 213) (.ref 214) (.ref 215) (.ref 216) 476 89 477) ::
 (218,fP "back_deed" (hs 30) .none (vS "struckdeeds.doings" 457) 217) ::
 (219,tO #[]) ::
 (220,nF #[]) ::
 (221,tO #[(vS "things" 482),(vS "deed" 483),(vS "made" 484),(vS "name" 485)]) ::
 (222,tO #[]) ::
 (223,gP "refuse_undoable" (hs 31)) ::
 (224,kP "refuse_undoable" 479 480 481 106 2 3 (.ref 219) 181 (.ref 220) (.ref 221) (.ref 222) (.ref 223) 486 106 487) ::
 (225,fP "refuse_undoable" (hs 31) .none (vS "struckdeeds.doings" 457) 224) ::
 (226,tO #[]) ::
 (227,nF #[]) ::
 (228,tO #[(vS "things" 492),(vS "deed" 493),(vS "word" 494),(vS "name" 495)]) ::
 (229,tO #[]) ::
 (230,gP "change" (hs 32)) ::
 (231,kP "change" 489 490 491 113 2 3 (.ref 226) 181 (.ref 227) (.ref 228) (.ref 229) (.ref 230) 496 113 497) ::
 (232,fP "change" (hs 32) .none (vS "struckdeeds.doings" 457) 231)::[])
noncomputable abbrev hX5 (w:World) (os:OsState):PySem.W.SharedT:=⟨hT5 w.params,233,{ },⟨[]⟩,{ },499,os⟩
def hD6:Params->List DictEntry:=fun P=>(hD5 P).set 0 (eS P "__name__" 165 (vS "law_struckdeeds_k55_whole_the_least_that_goe" 614))++[eS P "add_count" 509 (.ref 239),eS P "gone" 519 (.ref 246),eS P "walked" 531 (.ref 253),eS P "told_on" 544 (.ref 260),eS P "makers" 550 (.ref 265),eS P "deeds_of" 556 (.ref 270),eS P "book_world" 563 (.ref 277),eS P "book_of" 569 (.ref 282),eS P "is_number" 577 (.ref 289),eS P "needs" 583 (.ref 294),eS P "asking_for" 589 (.ref 299),eS P "goes" 599 (.ref 306),eS P "chains_by_ends" 605 (.ref 311),eS P "put_in" 613 (.ref 316),eS P "_law_mixed" 622 (.ref 323),eS P "_law_take" 631 (.ref 330),eS P "_law_names" 637 (.ref 335),eS P "_law_deed" 643 (.ref 340),eS P "_law_after" 649 (.ref 345),eS P "_law_start" 655 (.ref 350),eS P "_law_lines" 669 (.ref 357),eS P "_law_begun" 679 (.ref 364),eS P "_law_made" 686 (.ref 371),eS P "_law_ended" 693 (.ref 378)]
noncomputable def hT6:Params->PySem.W.BT:=fun P=>hI (hT5 P) (
 (3,(⟨.type "dict", none,.dict (hD6 P).toArray 61,#[]⟩:Obj)) ::
 (12,lF [(5,0,20),(7,0,25),(11,0,32),(13,0,39),(17,0,47),(19,0,52),(29,0,59),(35,0,66),(37,0,73),(43,0,80),(49,0,85),(53,0,92),(55,0,105),(57,0,117),(61,0,136),(65,0,155),(69,0,174),(74,0,193),(79,0,198),(81,0,203),(84,0,210),(89,0,217),(106,0,224),(113,0,231),(131,0,238),(135,0,245),(137,0,252),(148,0,259),(157,0,264),(160,0,269),(162,0,276),(164,0,281),(166,0,288),(168,0,293),(173,0,298),(176,0,305),(178,0,310),(189,0,315),(200,0,322),(202,0,329),(205,0,334),(216,0,339),(237,0,344),(245,0,349),(248,0,356),(258,0,363),(263,0,370),(265,0,377)]) ::
 (233,tO #[]) ::
 (234,nF #[]) ::
 (235,tO #[(vS "things" 502),(vS "name" 503),(vS "more" 504),(vS "place" 505),(vS "count" 506)]) ::
 (236,tO #[]) ::
 (237,gP "add_count" (hs 33)) ::
 (238,kP "add_count" 499 500 501 131 3 3 (.ref 233) 181 (.ref 234) (.ref 235) (.ref 236) (.ref 237) 507 131 508) ::
 (239,fP "add_count" (hs 33) .none (vS "struckdeeds.doings" 457) 238) ::
 (240,tO #[]) ::
 (241,nF #[]) ::
 (242,tO #[(vS "world" 515),(vS "row" 516)]) ::
 (243,tO #[]) ::
 (244,gP "gone" (hs 35)) ::
 (245,kP "gone" 512 513 514 135 2 3 (.ref 240) 181 (.ref 241) (.ref 242) (.ref 243) (.ref 244) 517 135 518) ::
 (246,fP "gone" (hs 35) .none (vS "struckdeeds.rows" 510) 245) ::
 (247,tO #[]) ::
 (248,nF #[]) ::
 (249,tO #[(vS "world" 523),(vS "row" 524),(vS "here" 525),(vS "back" 526),(vS "number" 527),(vS "deed" 528)]) ::
 (250,tO #[]) ::
 (251,gP "walked" (hs 36)) ::
 (252,kP "walked" 520 521 522 137 2 3 (.ref 247) 181 (.ref 248) (.ref 249) (.ref 250) (.ref 251) 529 137 530) ::
 (253,fP "walked" (hs 36) .none (vS "struckdeeds.rows" 510) 252) ::
 (254,tO #[]) ::
 (255,nF #[]) ::
 (256,tO #[(vS "world" 537),(vS "book" 538),(vS "hand" 539),(vS "deed" 540),(vS "made" 541)]) ::
 (257,tO #[]) ::
 (258,gP "told_on" (hs 38)) ::
 (259,kP "told_on" 534 535 536 148 4 3 (.ref 254) 181 (.ref 255) (.ref 256) (.ref 257) (.ref 258) 542 148 543) ::
 (260,fP "told_on" (hs 38) .none (vS "struckdeeds.books" 532) 259) ::
 (261,tO #[]) ::
 (262,nF #[]) ::
 (263,gP "makers" (hs 39)) ::
 (264,kP "makers" 545 546 547 157 1 3 (.ref 261) 181 (.ref 262) .none .none (.ref 263) 548 157 549) ::
 (265,fP "makers" (hs 39) .none (vS "struckdeeds.books" 532) 264) ::
 (266,tO #[]) ::
 (267,nF #[]) ::
 (268,gP "deeds_of" (hs 40)) ::
 (269,kP "deeds_of" 551 552 553 160 1 3 (.ref 266) 181 (.ref 267) .none .none (.ref 268) 554 160 555) ::
 (270,fP "deeds_of" (hs 40) .none (vS "struckdeeds.books" 532) 269) ::
 (271,tO #[]) ::
 (272,nF #[]) ::
 (273,tO #[(vS "book" 560)]) ::
 (274,tO #[]) ::
 (275,gP "book_world" (hs 41)) ::
 (276,kP "book_world" 557 558 559 162 1 3 (.ref 271) 181 (.ref 272) (.ref 273) (.ref 274) (.ref 275) 561 162 562) ::
 (277,fP "book_world" (hs 41) .none (vS "struckdeeds.books" 532) 276) ::
 (278,tO #[]) ::
 (279,nF #[]) ::
 (280,gP "book_of" (hs 42)) ::
 (281,kP "book_of" 564 565 566 164 2 3 (.ref 278) 181 (.ref 279) .none .none (.ref 280) 567 164 568) ::
 (282,fP "book_of" (hs 42) .none (vS "struckdeeds.books" 532) 281) ::
 (283,tO #[]) ::
 (284,nF #[]) ::
 (285,tO #[(vS "book" 573),(vS "thing" 574)]) ::
 (286,tO #[]) ::
 (287,gP "is_number" (hs 43)) ::
 (288,kP "is_number" 570 571 572 166 2 3 (.ref 283) 181 (.ref 284) (.ref 285) (.ref 286) (.ref 287) 575 166 576) ::
 (289,fP "is_number" (hs 43) .none (vS "struckdeeds.books" 532) 288) ::
 (290,tO #[]) ::
 (291,nF #[]) ::
 (292,gP "needs" (hs 44)) ::
 (293,kP "needs" 578 579 580 168 2 3 (.ref 290) 181 (.ref 291) .none .none (.ref 292) 581 168 582) ::
 (294,fP "needs" (hs 44) .none (vS "struckdeeds.books" 532) 293) ::
 (295,tO #[]) ::
 (296,nF #[]) ::
 (297,gP "asking_for" (hs 45)) ::
 (298,kP "asking_for" 584 585 586 173 3 3 (.ref 295) 181 (.ref 296) .none .none (.ref 297) 587 173 588) ::
 (299,fP "asking_for" (hs 45) .none (vS "struckdeeds.books" 532) 298) ::
 (300,tO #[]) ::
 (301,nF #[]) ::
 (302,tO #[(vS "book" 595),(vS "struck" 596)]) ::
 (303,tO #[]) ::
 (304,gP "goes" (hs 47)) ::
 (305,kP "goes" 592 593 594 176 2 3 (.ref 300) 181 (.ref 301) (.ref 302) (.ref 303) (.ref 304) 597 176 598) ::
 (306,fP "goes" (hs 47) .none (vS "struckdeeds.strikes" 590) 305) ::
 (307,tO #[]) ::
 (308,nF #[]) ::
 (309,gP "chains_by_ends" (hs 48)) ::
 (310,kP "chains_by_ends" 600 601 602 178 2 3 (.ref 307) 181 (.ref 308) .none .none (.ref 309) 603 178 604) ::
 (311,fP "chains_by_ends" (hs 48) .none (vS "struckdeeds.strikes" 590) 310) ::
 (312,tO #[]) ::
 (313,nF #[]) ::
 (314,gP "put_in" (hs 50)) ::
 (315,kP "put_in" 608 609 610 189 4 3 (.ref 312) 181 (.ref 313) .none .none (.ref 314) 611 189 612) ::
 (316,fP "put_in" (hs 50) .none (vS "struckdeeds.pasts" 606) 315) ::
 (317,tO #[]) ::
 (318,nF #[]) ::
 (319,tO #[(vS "_law_cell" 619)]) ::
 (320,tO #[]) ::
 (321,gP "_law_mixed" (hs 52)) ::
 (322,kP "_law_mixed" 616 617 618 200 1 3 (.ref 317) 181 (.ref 318) (.ref 319) (.ref 320) (.ref 321) 620 200 621) ::
 (323,fP "_law_mixed" (hs 52) .none (vS "law_struckdeeds_k55_whole_the_least_that_goe" 614) 322) ::
 (324,tO #[]) ::
 (325,nF #[]) ::
 (326,tO #[(vS "_law_pack" 626),(vS "_law_size" 627),(vS "_law_digit" 628)]) ::
 (327,tO #[]) ::
 (328,gP "_law_take" (hs 53)) ::
 (329,kP "_law_take" 623 624 625 202 2 3 (.ref 324) 181 (.ref 325) (.ref 326) (.ref 327) (.ref 328) 629 202 630) ::
 (330,fP "_law_take" (hs 53) .none (vS "law_struckdeeds_k55_whole_the_least_that_goe" 614) 329) ::
 (331,tO #[]) ::
 (332,nF #[]) ::
 (333,gP "_law_names" (hs 54)) ::
 (334,kP "_law_names" 632 633 634 205 2 3 (.ref 331) 181 (.ref 332) .none .none (.ref 333) 635 205 636) ::
 (335,fP "_law_names" (hs 54) .none (vS "law_struckdeeds_k55_whole_the_least_that_goe" 614) 334) ::
 (336,tO #[]) ::
 (337,nF #[]) ::
 (338,gP "_law_deed" (hs 55)) ::
 (339,kP "_law_deed" 638 639 640 216 3 3 (.ref 336) 181 (.ref 337) .none .none (.ref 338) 641 216 642) ::
 (340,fP "_law_deed" (hs 55) .none (vS "law_struckdeeds_k55_whole_the_least_that_goe" 614) 339) ::
 (341,tO #[]) ::
 (342,nF #[]) ::
 (343,gP "_law_after" (hs 56)) ::
 (344,kP "_law_after" 644 645 646 237 3 3 (.ref 341) 181 (.ref 342) .none .none (.ref 343) 647 237 648) ::
 (345,fP "_law_after" (hs 56) .none (vS "law_struckdeeds_k55_whole_the_least_that_goe" 614) 344) ::
 (346,tO #[]) ::
 (347,nF #[]) ::
 (348,gP "_law_start" (hs 57)) ::
 (349,kP "_law_start" 650 651 652 245 3 3 (.ref 346) 181 (.ref 347) .none .none (.ref 348) 653 245 654) ::
 (350,fP "_law_start" (hs 57) .none (vS "law_struckdeeds_k55_whole_the_least_that_goe" 614) 349) ::
 (351,tO #[]) ::
 (352,nF #[]) ::
 (353,tO #[(vS "_law_some" 659),(vS "_law_spare" 660),(vS "_law_cells" 661),(vS "_law_lines_here" 662),(vS "_law_cell" 663),(vS "_law_digits" 664),(vS "_law_hand" 665),(vS "_law_deed_here" 666)]) ::
 (354,tO #[]) ::
 (355,gP "_law_lines" (hs 58)) ::
 (356,kP "_law_lines" 656 657 658 248 3 3 (.ref 351) 181 (.ref 352) (.ref 353) (.ref 354) (.ref 355) 667 248 668) ::
 (357,fP "_law_lines" (hs 58) .none (vS "law_struckdeeds_k55_whole_the_least_that_goe" 614) 356) ::
 (358,tO #[]) ::
 (359,nF #[]) ::
 (360,tO #[(vS "_law_head" 673),(vS "_law_pack" 674),(vS "_law_spare" 675),(vS "_law_amount" 676)]) ::
 (361,tO #[]) ::
 (362,gP "_law_begun" (hs 59)) ::
 (363,kP "_law_begun" 670 671 672 258 1 3 (.ref 358) 181 (.ref 359) (.ref 360) (.ref 361) (.ref 362) 677 258 678) ::
 (364,fP "_law_begun" (hs 59) .none (vS "law_struckdeeds_k55_whole_the_least_that_goe" 614) 363) ::
 (365,tO #[]) ::
 (366,nF #[]) ::
 (367,tO #[(vS "_law_deed_here" 683)]) ::
 (368,tO #[]) ::
 (369,gP "_law_made" (hs 60)) ::
 (370,kP "_law_made" 680 681 682 263 1 3 (.ref 365) 181 (.ref 366) (.ref 367) (.ref 368) (.ref 369) 684 263 685) ::
 (371,fP "_law_made" (hs 60) .none (vS "law_struckdeeds_k55_whole_the_least_that_goe" 614) 370) ::
 (372,tO #[]) ::
 (373,nF #[]) ::
 (374,tO #[(vS "_law_deed_here" 690)]) ::
 (375,tO #[]) ::
 (376,gP "_law_ended" (hs 61)) ::
 (377,kP "_law_ended" 687 688 689 265 1 3 (.ref 372) 181 (.ref 373) (.ref 374) (.ref 375) (.ref 376) 691 265 692) ::
 (378,fP "_law_ended" (hs 61) .none (vS "law_struckdeeds_k55_whole_the_least_that_goe" 614) 377)::[])
noncomputable abbrev hX6 (w:World) (os:OsState):PySem.W.SharedT:=⟨hT6 w.params,379,{ },⟨[]⟩,{ },694,os⟩
def hD7:Params->List DictEntry:=fun P=>hD6 P++[eS P "_law_wanted" 700 (.ref 385),eS P "_law_is_book" 706 (.ref 390),eS P "_law_asked" 712 (.ref 395),eS P "_law_sets" 718 (.ref 400),eS P "law" 724 (.ref 405)]
noncomputable def hT7:Params->PySem.W.BT:=fun P=>hI (hT6 P) (
 (3,(⟨.type "dict", none,.dict (hD7 P).toArray 66,#[]⟩:Obj)) ::
 (12,lF [(5,0,20),(7,0,25),(11,0,32),(13,0,39),(17,0,47),(19,0,52),(29,0,59),(35,0,66),(37,0,73),(43,0,80),(49,0,85),(53,0,92),(55,0,105),(57,0,117),(61,0,136),(65,0,155),(69,0,174),(74,0,193),(79,0,198),(81,0,203),(84,0,210),(89,0,217),(106,0,224),(113,0,231),(131,0,238),(135,0,245),(137,0,252),(148,0,259),(157,0,264),(160,0,269),(162,0,276),(164,0,281),(166,0,288),(168,0,293),(173,0,298),(176,0,305),(178,0,310),(189,0,315),(200,0,322),(202,0,329),(205,0,334),(216,0,339),(237,0,344),(245,0,349),(248,0,356),(258,0,363),(263,0,370),(265,0,377),(267,0,384),(269,0,389),(279,0,394),(288,0,399),(293,0,404)]) ::
 (379,tO #[]) ::
 (380,nF #[]) ::
 (381,tO #[(vS "_law_deed_here" 697)]) ::
 (382,tO #[]) ::
 (383,gP "_law_wanted" (hs 62)) ::
 (384,kP "_law_wanted" 694 695 696 267 1 3 (.ref 379) 181 (.ref 380) (.ref 381) (.ref 382) (.ref 383) 698 267 699) ::
 (385,fP "_law_wanted" (hs 62) .none (vS "law_struckdeeds_k55_whole_the_least_that_goe" 614) 384) ::
 (386,tO #[]) ::
 (387,nF #[]) ::
 (388,gP "_law_is_book" (hs 63)) ::
 (389,kP "_law_is_book" 701 702 703 269 2 3 (.ref 386) 181 (.ref 387) .none .none (.ref 388) 704 269 705) ::
 (390,fP "_law_is_book" (hs 63) .none (vS "law_struckdeeds_k55_whole_the_least_that_goe" 614) 389) ::
 (391,tO #[]) ::
 (392,nF #[]) ::
 (393,gP "_law_asked" (hs 64)) ::
 (394,kP "_law_asked" 707 708 709 279 1 3 (.ref 391) 181 (.ref 392) .none .none (.ref 393) 710 279 711) ::
 (395,fP "_law_asked" (hs 64) .none (vS "law_struckdeeds_k55_whole_the_least_that_goe" 614) 394) ::
 (396,tO #[]) ::
 (397,nF #[]) ::
 (398,gP "_law_sets" (hs 65)) ::
 (399,kP "_law_sets" 713 714 715 288 1 3 (.ref 396) 181 (.ref 397) .none .none (.ref 398) 716 288 717) ::
 (400,fP "_law_sets" (hs 65) .none (vS "law_struckdeeds_k55_whole_the_least_that_goe" 614) 399) ::
 (401,tO #[]) ::
 (402,nF #[]) ::
 (403,gP "law" (hs 66)) ::
 (404,kP "law" 719 720 721 293 1 3 (.ref 401) 181 (.ref 402) .none .none (.ref 403) 722 293 723) ::
 (405,fP "law" (hs 66) .none (vS "law_struckdeeds_k55_whole_the_least_that_goe" 614) 404)::[])
noncomputable abbrev hX7 (w:World) (os:OsState):PySem.W.SharedT:=⟨hT7 w.params,406,{ },⟨[]⟩,{ },725,os⟩
noncomputable abbrev hX8 (w:World) (os:OsState):PySem.W.SharedT:=⟨hT7 w.params,406,{ },⟨[]⟩,{ },725,os⟩
noncomputable def hg (P:Params) (a:Nat):Obj:=((hT7 P).get a).getD default
noncomputable def hK:Params->PySem.W.Frag:=fun P=>
 (nat_lit 2,hg P 2) ::
 (nat_lit 3,hg P 3) ::
 (nat_lit 20,hg P 20) ::
 (nat_lit 21,fP "is_whole" IS .none (vS "struckdeeds.words" 187) 20) ::
 (nat_lit 25,hg P 25) ::
 (nat_lit 26,fP "is_name" HY .none (vS "struckdeeds.words" 187) 25) ::
 (nat_lit 32,hg P 32) ::
 (nat_lit 33,fP "is_within" GO .none (vS "struckdeeds.words" 187) 32) ::
 (nat_lit 39,hg P 39) ::
 (nat_lit 40,fP "is_place" IT .none (vS "struckdeeds.words" 187) 39) ::
 (nat_lit 41,(⟨(.type "dict"),none,(.dict #[eS P "put" 226 (vS "npk" 227),eS P "take" 228 (vS "n" 229),eS P "move" 230 (vS "np" 231),eS P "count" 232 (vS "nk" 233),eS P "name" 234 (vS "nn" 235),eS P "split" 236 (vS "nnpk" 237),eS P "join" 238 (vS "nn" 239)] 7),#[]⟩:Obj)) ::
 (nat_lit 47,hg P 47) ::
 (nat_lit 48,fP "form_of" KS .none (vS "struckdeeds.deeds" 224) 47) ::
 (nat_lit 52,hg P 52) ::
 (nat_lit 53,fP "is_deed" HZ .none (vS "struckdeeds.deeds" 224) 52) ::
 (nat_lit 59,hg P 59) ::
 (nat_lit 60,fP "fits" WU .none (vS "struckdeeds.deeds" 224) 59) ::
 (nat_lit 66,hg P 66) ::
 (nat_lit 67,fP "names_in" IU .none (vS "struckdeeds.deeds" 224) 66) ::
 (nat_lit 73,hg P 73) ::
 (nat_lit 74,fP "made_by" KU .none (vS "struckdeeds.deeds" 224) 73) ::
 (nat_lit 80,hg P 80) ::
 (nat_lit 81,fP "ended_by" IV .none (vS "struckdeeds.deeds" 224) 80) ::
 (nat_lit 85,hg P 85) ::
 (nat_lit 86,fP "must_stand" E3 .none (vS "struckdeeds.deeds" 224) 85) ::
 (nat_lit 95,hg P 95) ::
 (nat_lit 96,(⟨(.type "type"),none,(.cls (.mk "StrikeError" [(.type "ValueError")] [(.ref 96),(.type "ValueError"),(.type "Exception"),(.type "BaseException"),(.type "object")] 95 "StrikeError" true [] [(.ref 109),(.ref 128),(.ref 147),(.ref 166),(.ref 185)] false none false)),#[(some (.ref 87)),none,(some (vS "StrikeError" 298)),(some (vS "StrikeError" 306)),(some (.builtin "ValueError.__new__")),(some (.bool true))]⟩:Obj)) ::
 (nat_lit 97,hg P 97) ::
 (nat_lit 108,hg P 108) ::
 (nat_lit 109,hg P 109) ::
 (nat_lit 127,hg P 127) ::
 (nat_lit 128,hg P 128) ::
 (nat_lit 146,hg P 146) ::
 (nat_lit 147,hg P 147) ::
 (nat_lit 165,hg P 165) ::
 (nat_lit 166,hg P 166) ::
 (nat_lit 184,hg P 184) ::
 (nat_lit 185,hg P 185) ::
 (nat_lit 193,hg P 193) ::
 (nat_lit 194,fP "thing_of" IW .none (vS "struckdeeds.worlds" 432) 193) ::
 (nat_lit 198,hg P 198) ::
 (nat_lit 199,fP "by_names" GA .none (vS "struckdeeds.worlds" 432) 198) ::
 (nat_lit 203,hg P 203) ::
 (nat_lit 204,fP "rising_by_names" BR .none (vS "struckdeeds.worlds" 432) 203) ::
 (nat_lit 210,hg P 210) ::
 (nat_lit 211,fP "done" WV .none (vS "struckdeeds.doings" 457) 210) ::
 (nat_lit 217,hg P 217) ::
 (nat_lit 218,fP "back_deed" GQ .none (vS "struckdeeds.doings" 457) 217) ::
 (nat_lit 224,hg P 224) ::
 (nat_lit 225,fP "refuse_undoable" CN .none (vS "struckdeeds.doings" 457) 224) ::
 (nat_lit 231,hg P 231) ::
 (nat_lit 232,fP "change" NM .none (vS "struckdeeds.doings" 457) 231) ::
 (nat_lit 238,hg P 238) ::
 (nat_lit 239,fP "add_count" GP .none (vS "struckdeeds.doings" 457) 238) ::
 (nat_lit 245,hg P 245) ::
 (nat_lit 246,fP "gone" WW .none (vS "struckdeeds.rows" 510) 245) ::
 (nat_lit 252,hg P 252) ::
 (nat_lit 253,fP "walked" NN .none (vS "struckdeeds.rows" 510) 252) ::
 (nat_lit 259,hg P 259) ::
 (nat_lit 260,fP "told_on" KW .none (vS "struckdeeds.books" 532) 259) ::
 (nat_lit 264,hg P 264) ::
 (nat_lit 265,fP "makers" IA .none (vS "struckdeeds.books" 532) 264) ::
 (nat_lit 269,hg P 269) ::
 (nat_lit 270,fP "deeds_of" GB .none (vS "struckdeeds.books" 532) 269) ::
 (nat_lit 276,hg P 276) ::
 (nat_lit 277,fP "book_world" FL .none (vS "struckdeeds.books" 532) 276) ::
 (nat_lit 281,hg P 281) ::
 (nat_lit 282,fP "book_of" IB .none (vS "struckdeeds.books" 532) 281) ::
 (nat_lit 288,hg P 288) ::
 (nat_lit 289,fP "is_number" GR .none (vS "struckdeeds.books" 532) 288) ::
 (nat_lit 293,hg P 293) ::
 (nat_lit 294,fP "needs" NO .none (vS "struckdeeds.books" 532) 293) ::
 (nat_lit 298,hg P 298) ::
 (nat_lit 299,fP "asking_for" E4 .none (vS "struckdeeds.books" 532) 298) ::
 (nat_lit 305,hg P 305) ::
 (nat_lit 306,fP "goes" WX .none (vS "struckdeeds.strikes" 590) 305) ::
 (nat_lit 310,hg P 310) ::
 (nat_lit 311,fP "chains_by_ends" BH .none (vS "struckdeeds.strikes" 590) 310) ::
 (nat_lit 315,hg P 315) ::
 (nat_lit 316,fP "put_in" K9 .none (vS "struckdeeds.pasts" 606) 315) ::
 (nat_lit 322,hg P 322) ::
 (nat_lit 323,fP "_law_mixed" FM .none (vS "law_struckdeeds_k55_whole_the_least_that_goe" 614) 322) ::
 (nat_lit 329,hg P 329) ::
 (nat_lit 330,fP "_law_take" GS .none (vS "law_struckdeeds_k55_whole_the_least_that_goe" 614) 329) ::
 (nat_lit 334,hg P 334) ::
 (nat_lit 335,fP "_law_names" CV .none (vS "law_struckdeeds_k55_whole_the_least_that_goe" 614) 334) ::
 (nat_lit 339,hg P 339) ::
 (nat_lit 340,fP "_law_deed" ET .none (vS "law_struckdeeds_k55_whole_the_least_that_goe" 614) 339) ::
 (nat_lit 344,hg P 344) ::
 (nat_lit 345,fP "_law_after" CW .none (vS "law_struckdeeds_k55_whole_the_least_that_goe" 614) 344) ::
 (nat_lit 349,hg P 349) ::
 (nat_lit 350,fP "_law_start" E5 .none (vS "law_struckdeeds_k55_whole_the_least_that_goe" 614) 349) ::
 (nat_lit 356,hg P 356) ::
 (nat_lit 357,fP "_law_lines" FN .none (vS "law_struckdeeds_k55_whole_the_least_that_goe" 614) 356) ::
 (nat_lit 363,hg P 363) ::
 (nat_lit 364,fP "_law_begun" FO .none (vS "law_struckdeeds_k55_whole_the_least_that_goe" 614) 363) ::
 (nat_lit 370,hg P 370) ::
 (nat_lit 371,fP "_law_made" GT .none (vS "law_struckdeeds_k55_whole_the_least_that_goe" 614) 370) ::
 (nat_lit 377,hg P 377) ::
 (nat_lit 378,fP "_law_ended" FP .none (vS "law_struckdeeds_k55_whole_the_least_that_goe" 614) 377) ::
 (nat_lit 384,hg P 384) ::
 (nat_lit 385,fP "_law_wanted" EI .none (vS "law_struckdeeds_k55_whole_the_least_that_goe" 614) 384) ::
 (nat_lit 389,hg P 389) ::
 (nat_lit 390,fP "_law_is_book" B6 .none (vS "law_struckdeeds_k55_whole_the_least_that_goe" 614) 389) ::
 (nat_lit 394,hg P 394) ::
 (nat_lit 395,fP "_law_asked" CY .none (vS "law_struckdeeds_k55_whole_the_least_that_goe" 614) 394) ::
 (nat_lit 399,hg P 399) ::
 (nat_lit 400,fP "_law_sets" EU .none (vS "law_struckdeeds_k55_whole_the_least_that_goe" 614) 399) ::
 (nat_lit 404,hg P 404) ::
 (nat_lit 405,fP "law" VA .none (vS "law_struckdeeds_k55_whole_the_least_that_goe" 614) 404)::[]
def hA:List Addr:=[2,3,20,21,25,26,32,33,39,40,41,47,48,52,53,59,60,66,67,73,74,80,81,85,86,95,96,97,108,109,127,128,146,147,165,166,184,185,193,194,198,199,203,204,210,211,217,218,224,225,231,232,238,239,245,246,252,253,259,260,264,265,269,270,276,277,281,282,288,289,293,294,298,299,305,306,310,311,315,316,322,323,329,330,334,335,339,340,344,345,349,350,356,357,363,364,370,371,377,378,384,385,389,390,394,395,399,400,404,405]
theorem hE:∀P,hA=(hK P).map (·.1):=fun _=>by kernel_rfl
theorem hp1 (w:World):(fun os=>PySem.W.topGo treeTable PySem.Challenge.pw_struckdeeds_k55_whole_the_least_that_goe w 11 (a2X (a0Z 6)) 12 ⟨a4K w.params,⟨[]⟩,b6X,b7K,os⟩ (PySem.W.topStub PySem.Challenge.pw_struckdeeds_k55_whole_the_least_that_goe))=fun os=>some ((hX1 w os).abs,⟨denote treeTable hC,hC,{ line:=0,col:=0,endLine:=0,endCol:=0 },hF⟩):=by kernel_rfl
theorem hp2 (w:World):(fun os=>a8J treeTable PySem.Challenge.pw_struckdeeds_k55_whole_the_least_that_goe w 11 (a2X (a0Z 6)) 1 1 (hX1 w os) (PySem.W.blockOf hB hN hC { line:=0,col:=0,endLine:=0,endCol:=0 } hF))=fun os=>some (.next,hX2 w os,hC,{ line:=0,col:=0,endLine:=0,endCol:=0 }):=by kernel_rfl
def hQ3:List Stmt:=(hB.drop 0).take 19
abbrev A04 (w:World):Prop:=(fun os=>a8J treeTable PySem.Challenge.pw_struckdeeds_k55_whole_the_least_that_goe w 11 (a2X (a0Z 6)) 1 669 (hX2 w os) (a9X hQ3 hN hC { line:=0,col:=0,endLine:=0,endCol:=0 } hF))=fun os=>some (.next,hX3 w os,hC,{ line:=53,col:=0,endLine:=54,endCol:=8 })
theorem j3 (w:World):(fun os=>a8J treeTable PySem.Challenge.pw_struckdeeds_k55_whole_the_least_that_goe (w.withFollow "special-get-raises" false) 11 (a2X (a0Z 6)) 1 669 (hX2 (w.withFollow "special-get-raises" false) os) (a9X hQ3 hN hC { line:=0,col:=0,endLine:=0,endCol:=0 } hF))=fun os=>some (.next,hX3 (w.withFollow "special-get-raises" false) os,hC,{ line:=53,col:=0,endLine:=54,endCol:=8 }):=by kernel_rfl
theorem o8 (w:World):(fun os=>a8J treeTable PySem.Challenge.pw_struckdeeds_k55_whole_the_least_that_goe (w.withFollow "special-get-raises" true) 11 (a2X (a0Z 6)) 1 669 (hX2 (w.withFollow "special-get-raises" true) os) (a9X hQ3 hN hC { line:=0,col:=0,endLine:=0,endCol:=0 } hF))=fun os=>some (.next,hX3 (w.withFollow "special-get-raises" true) os,hC,{ line:=53,col:=0,endLine:=54,endCol:=8 }):=by kernel_rfl
theorem hp3:∀w:World,A04 w:=PySem.W.byRow2 "special-get-raises" j3 o8
def hQ4:List Stmt:=(hB.drop 19).take 3
theorem hp4 (w:World):(fun os=>a8J treeTable PySem.Challenge.pw_struckdeeds_k55_whole_the_least_that_goe w 11 (a2X (a0Z 6)) 1 704 (hX3 w os) (a9X hQ4 hN hC { line:=53,col:=0,endLine:=54,endCol:=8 } hF))=fun os=>some (.next,hX4 w os,hC,{ line:=61,col:=0,endLine:=64,endCol:=28 }):=by kernel_rfl
def hQ5:List Stmt:=(hB.drop 22).take 11
theorem hp5 (w:World):(fun os=>a8J treeTable PySem.Challenge.pw_struckdeeds_k55_whole_the_least_that_goe w 11 (a2X (a0Z 6)) 1 722 (hX4 w os) (a9X hQ5 hN hC { line:=61,col:=0,endLine:=64,endCol:=28 } hF))=fun os=>some (.next,hX5 w os,hC,{ line:=113,col:=0,endLine:=130,endCol:=27 }):=by kernel_rfl
def hQ6:List Stmt:=(hB.drop 33).take 29
theorem hp6 (w:World):(fun os=>a8J treeTable PySem.Challenge.pw_struckdeeds_k55_whole_the_least_that_goe w 11 (a2X (a0Z 6)) 1 737 (hX5 w os) (a9X hQ6 hN hC { line:=113,col:=0,endLine:=130,endCol:=27 } hF))=fun os=>some (.next,hX6 w os,hC,{ line:=265,col:=0,endLine:=266,endCol:=125 }):=by kernel_rfl
def hQ7:List Stmt:=(hB.drop 62).take 5
theorem hp7 (w:World):(fun os=>a8J treeTable PySem.Challenge.pw_struckdeeds_k55_whole_the_least_that_goe w 11 (a2X (a0Z 6)) 1 134 (hX6 w os) (a9X hQ7 hN hC { line:=265,col:=0,endLine:=266,endCol:=125 } hF))=fun os=>some (.next,hX7 w os,hC,{ line:=293,col:=0,endLine:=307,endCol:=71 }):=by kernel_rfl
theorem hp8 (w:World):(fun os=>a6Z treeTable PySem.Challenge.pw_struckdeeds_k55_whole_the_least_that_goe w 11 (a2X (a0Z 6)) 2 (hX7 w os).abs (b0K [] hN hC { line:=293,col:=0,endLine:=307,endCol:=71 } hF))=fun os=>some (hX8 w os).abs:=by kernel_rfl
theorem hR1:hB=(hQ3++(hQ4++(hQ5++(hQ6++(hQ7++[]))))):=by kernel_rfl
theorem hr8 (w:World) (os:OsState):a6Z treeTable PySem.Challenge.pw_struckdeeds_k55_whole_the_least_that_goe w 11 (a2X (a0Z 6)) 2 (hX7 w os).abs (b0K [] hN hC { line:=293,col:=0,endLine:=307,endCol:=71 } hF)=some (hX8 w os).abs:=congrFun (hp8 w) os
theorem hr7 (w:World) (os:OsState):a6Z treeTable PySem.Challenge.pw_struckdeeds_k55_whole_the_least_that_goe w 11 (a2X (a0Z 6)) (134+2) (hX6 w os).abs (b0K (hQ7++[]) hN hC { line:=265,col:=0,endLine:=266,endCol:=125 } hF)=some (hX8 w os).abs:=b2V (n:=134) (N:=2) (s:=(hX6 w os).abs) (s':=(hX7 w os).abs) (r:=(hX8 w os).abs) (l:=hQ7) (rest:=[]) (c:=hC) (pos:={ line:=265,col:=0,endLine:=266,endCol:=125 }) (p':={ line:=293,col:=0,endLine:=307,endCol:=71 }) (env:=hN) (q:={ line:=0,col:=0,endLine:=0,endCol:=0 }) (b0X (congrFun (hp7 w) os)) (hr8 w os)
theorem hr6 (w:World) (os:OsState):a6Z treeTable PySem.Challenge.pw_struckdeeds_k55_whole_the_least_that_goe w 11 (a2X (a0Z 6)) (737+(134+2)) (hX5 w os).abs (b0K (hQ6++(hQ7++[])) hN hC { line:=113,col:=0,endLine:=130,endCol:=27 } hF)=some (hX8 w os).abs:=b2V (n:=737) (N:=(134+2)) (s:=(hX5 w os).abs) (s':=(hX6 w os).abs) (r:=(hX8 w os).abs) (l:=hQ6) (rest:=(hQ7++[])) (c:=hC) (pos:={ line:=113,col:=0,endLine:=130,endCol:=27 }) (p':={ line:=265,col:=0,endLine:=266,endCol:=125 }) (env:=hN) (q:={ line:=0,col:=0,endLine:=0,endCol:=0 }) (b0X (congrFun (hp6 w) os)) (hr7 w os)
theorem hr5 (w:World) (os:OsState):a6Z treeTable PySem.Challenge.pw_struckdeeds_k55_whole_the_least_that_goe w 11 (a2X (a0Z 6)) (722+(737+(134+2))) (hX4 w os).abs (b0K (hQ5++(hQ6++(hQ7++[]))) hN hC { line:=61,col:=0,endLine:=64,endCol:=28 } hF)=some (hX8 w os).abs:=b2V (n:=722) (N:=(737+(134+2))) (s:=(hX4 w os).abs) (s':=(hX5 w os).abs) (r:=(hX8 w os).abs) (l:=hQ5) (rest:=(hQ6++(hQ7++[]))) (c:=hC) (pos:={ line:=61,col:=0,endLine:=64,endCol:=28 }) (p':={ line:=113,col:=0,endLine:=130,endCol:=27 }) (env:=hN) (q:={ line:=0,col:=0,endLine:=0,endCol:=0 }) (b0X (congrFun (hp5 w) os)) (hr6 w os)
theorem hr4 (w:World) (os:OsState):a6Z treeTable PySem.Challenge.pw_struckdeeds_k55_whole_the_least_that_goe w 11 (a2X (a0Z 6)) (704+(722+(737+(134+2)))) (hX3 w os).abs (b0K (hQ4++(hQ5++(hQ6++(hQ7++[])))) hN hC { line:=53,col:=0,endLine:=54,endCol:=8 } hF)=some (hX8 w os).abs:=b2V (n:=704) (N:=(722+(737+(134+2)))) (s:=(hX3 w os).abs) (s':=(hX4 w os).abs) (r:=(hX8 w os).abs) (l:=hQ4) (rest:=(hQ5++(hQ6++(hQ7++[])))) (c:=hC) (pos:={ line:=53,col:=0,endLine:=54,endCol:=8 }) (p':={ line:=61,col:=0,endLine:=64,endCol:=28 }) (env:=hN) (q:={ line:=0,col:=0,endLine:=0,endCol:=0 }) (b0X (congrFun (hp4 w) os)) (hr5 w os)
theorem hr3 (w:World) (os:OsState):a6Z treeTable PySem.Challenge.pw_struckdeeds_k55_whole_the_least_that_goe w 11 (a2X (a0Z 6)) (669+(704+(722+(737+(134+2))))) (hX2 w os).abs (b0K (hQ3++(hQ4++(hQ5++(hQ6++(hQ7++[]))))) hN hC { line:=0,col:=0,endLine:=0,endCol:=0 } hF)=some (hX8 w os).abs:=b2V (n:=669) (N:=(704+(722+(737+(134+2))))) (s:=(hX2 w os).abs) (s':=(hX3 w os).abs) (r:=(hX8 w os).abs) (l:=hQ3) (rest:=(hQ4++(hQ5++(hQ6++(hQ7++[]))))) (c:=hC) (pos:={ line:=0,col:=0,endLine:=0,endCol:=0 }) (p':={ line:=53,col:=0,endLine:=54,endCol:=8 }) (env:=hN) (q:={ line:=0,col:=0,endLine:=0,endCol:=0 }) (b0X (congrFun (hp3 w) os)) (hr4 w os)
theorem hr2 (w:World) (os:OsState):a6Z treeTable PySem.Challenge.pw_struckdeeds_k55_whole_the_least_that_goe w 11 (a2X (a0Z 6)) (1+(669+(704+(722+(737+(134+2)))))) (hX1 w os).abs ⟨denote treeTable hC,hC,{ line:=0,col:=0,endLine:=0,endCol:=0 },hF⟩=some (hX8 w os).abs:=PySem.W.piece_block (n:=1) (N:=(669+(704+(722+(737+(134+2)))))) (s:=(hX1 w os).abs) (s':=(hX2 w os).abs) (r:=(hX8 w os).abs) (b:=hB) (env:=hN) (c:=hC) (pos:={ line:=0,col:=0,endLine:=0,endCol:=0 }) (p':={ line:=0,col:=0,endLine:=0,endCol:=0 }) (q:={ line:=0,col:=0,endLine:=0,endCol:=0 }) (b0X (congrFun (hp2 w) os)) (by rw[hR1];exact hr3 w os)
noncomputable def hH:Params->Heap:=fun P=>PySem.W.absHeap (hT7 P) 406 { }
theorem hr1 (w:World) (os:OsState):a6Z treeTable PySem.Challenge.pw_struckdeeds_k55_whole_the_least_that_goe w 11 (a2X (a0Z 6)) (12+(1+(669+(704+(722+(737+(134+2))))))) ⟨a4K w.params,⟨[]⟩,b6X,b7K,os⟩ (PySem.W.topStub PySem.Challenge.pw_struckdeeds_k55_whole_the_least_that_goe)=some (hX8 w os).abs:=PySem.W.go_top (n:=12) (N:=(1+(669+(704+(722+(737+(134+2))))))) (s':=(hX1 w os).abs) (t':=⟨denote treeTable hC,hC,{ line:=0,col:=0,endLine:=0,endCol:=0 },hF⟩) (congrFun (hp1 w) os) (hr2 w os)
theorem hR (w:World) (os:OsState):a6Z treeTable PySem.Challenge.pw_struckdeeds_k55_whole_the_least_that_goe w 11 (a2X (a0Z 6)) (12+(1+(669+(704+(722+(737+(134+2))))))) ⟨a4K w.params,⟨[]⟩,b6X,b7K,os⟩ (PySem.W.topStub PySem.Challenge.pw_struckdeeds_k55_whole_the_least_that_goe)=some ⟨hH w.params,⟨[]⟩,{ },725,os⟩:=(hr1 w os).trans (by kernel_rfl)
theorem hZ (w:World):(fun os=>((PySem.W.staticsOk (PySem.importedModules PySem.Challenge.pw_struckdeeds_k55_whole_the_least_that_goe.main.body) (a4K w.params) (hH w.params)&&PySem.W.namesBound PySem.Challenge.pw_struckdeeds_k55_whole_the_least_that_goe (hH w.params)&&PySem.W.gensDone ⟨hH w.params,⟨[]⟩,{ },725,os⟩&&PySem.W.laidKept (a4K w.params) (hH w.params)),PySem.W.openSeen hV [a0Q "FORMS"] (PySem.importedModules PySem.Challenge.pw_struckdeeds_k55_whole_the_least_that_goe.main.body) (fun s=>PySem.W.xlAt hV [] s&&PySem.W.recOk (b3Q (b1Q (b3X PySem.Challenge.rw_struckdeeds_k55_whole_the_least_that_goe))) s) true ⟨hH w.params,⟨[]⟩,{ },725,os⟩,b7Q (a6Q hK hA hE) ⟨hH w.params,⟨[]⟩,{ },725,os⟩))=fun _=>(true,PySem.W.openGood hV [a0Q "FORMS"],b6V (a6Q hK hA hE) w):=by kernel_rfl
theorem hO:PySem.W.opening PySem.Challenge.pw_struckdeeds_k55_whole_the_least_that_goe=PySem.W.plainProg PySem.Challenge.pw_struckdeeds_k55_whole_the_least_that_goe.main.scope.names:=by kernel_rfl
theorem hG (w:World):((a4K w.params).isNs mainGlobals&&(⟨[]⟩:Array GenState).size==0,(a4K w.params).objs.size,(a4K w.params).nsMap mainGlobals (a0Q "__annotations__"))=(true,11,a2X (a0Z 6)):=by kernel_rfl
theorem hJ (s:Shared):PySem.fenceModules? PySem.Challenge.pw_struckdeeds_k55_whole_the_least_that_goe s=some s:=by kernel_rfl
theorem hL:PySem.W.LeftO PySem.Challenge.pw_struckdeeds_k55_whole_the_least_that_goe hV [a0Q "FORMS"] (fun s=>PySem.W.xlAt hV [] s&&PySem.W.recOk (b3Q (b1Q (b3X PySem.Challenge.rw_struckdeeds_k55_whole_the_least_that_goe))) s) (b7Q (a6Q hK hA hE)) (b6V (a6Q hK hA hE)) 6048:=
 @PySem.W.LeftO.of_pieces PySem.Challenge.pw_struckdeeds_k55_whole_the_least_that_goe hV [a0Q "FORMS"] (fun s=>PySem.W.xlAt hV [] s&&PySem.W.recOk (b3Q (b1Q (b3X PySem.Challenge.rw_struckdeeds_k55_whole_the_least_that_goe))) s) _ (b7Q (a6Q hK hA hE)) (b6V (a6Q hK hA hE)) 6048 true a4K hH ⟨[]⟩ ⟨[]⟩ b6X { } b7K 725 11 (a2X (a0Z 6)) (12+(1+(669+(704+(722+(737+(134+2))))))) (PySem.W.boot_open hO (by decide) hJ) hG hR (by decide) hZ
theorem hS:PySem.W.OpenLaw.wellSaid PySem.Challenge.rw_struckdeeds_k55_whole_the_least_that_goe=true:=by kernel_rfl
set_option hygiene false
local macro_rules | `(tactic| walk_at "lc")=>`(tactic| first | exact Or.inl rfl | exact Or.inr rfl | exact Or.inr (Or.inl rfl) | exact Or.inr (Or.inr rfl))
local macro_rules | `(tactic| walk_at "or")=>`(tactic| first | exact .inl rfl | exact .inr rfl | assumption)
local macro_rules | `(tactic| walk_at "q")=>`(tactic| first | ((with_reducible show PSs _ [] _);exact @oH _) | ((with_reducible show PSs _ [_] _);exact @cT _ _ _ (by walk_at "s")) | ((with_reducible show PSs _ (_::_) _);exact @XH _ _ _ _ _ (by walk_at "s") (by walk_at "q")))
local macro_rules | `(tactic| walk_at "s")=>`(tactic| first | ((with_reducible show PS _ (.Assign [.Name ..] (.ListComp ..) _) _);exact @pC _ _ _ _ _ _ _ _ _ _ _ _ _ _ _ _ _ rfl (by assumption) (WJ (by rfl)) (by walk_at "lc") (by walk_at "cs") (by walk_at "n") (fun C s' H' ex' pn'=>⟨(by walk_at "g"),(by walk_at "u"),(by walk_at "e")⟩) rfl (by walk_at "or") (by intro _;rfl)) | ((with_reducible show PS _ (.Assign [.Name ..] ..) _);exact @uD _ _ _ _ _ _ _ (by assumption) (WJ (by rfl)) (by walk_at "lc") (by walk_at "e") (by rfl) (by walk_at "or")) | ((with_reducible show PS _ (.If ..) _);first | walk_at "z" | exact @y9 _ _ _ _ _ _ _ _ (by walk_at "t") (by walk_at "q") (by walk_at "q")) | ((with_reducible show PS _ (.Return (some _) _) _);exact @u9 _ _ _ _ (by walk_at "e")) | ((with_reducible show PS _ (.For ..) _);exact @uE _ _ _ _ _ _ _ _ PassesOwn.never rfl (by walk_at "n") (by walk_at "g") (by walk_at "q") (by intro _;rfl)) | ((with_reducible show PS _ (.Expr ..) _);exact @oI _ _ _ _ (by walk_at "e") (by rfl)) | ((with_reducible show PS _ (.Raise ..) _);exact @jD _ _) | walk_at "x")
local macro_rules | `(tactic| walk_at "e")=>`(tactic| first | ((with_reducible show PE _ (.Name ..) _);first | exact @pvx _ _ _ _ (by rfl) (by walk_at "lc") (by decide) (by decide) | exact @pY _ _ _ _ (by rfl) (by assumption) (by decide) | exact @pX _ _ _ _ (by rfl) (by assumption) (by decide) | exact @IC _ _ (.ty "int") _ _ (by rfl) (by assumption) PyProof.Rows.boot_int rfl (by decide) (by decide) | exact @IC _ _ (.ty "str") _ _ (by rfl) (by assumption) PyProof.Rows.boot_str rfl (by decide) (by decide) | exact @IC _ _ (.ty "bool") _ _ (by rfl) (by assumption) PyProof.Rows.boot_bool rfl (by decide) (by decide) | exact @IC _ _ (.ty "list") _ _ (by rfl) (by assumption) a8V rfl (by decide) (by decide) | exact @IC _ _ (.ty "tuple") _ _ (by rfl) (by assumption) PyProof.Rows.boot_tuple rfl (by decide) (by decide) | exact @IC _ _ (.ty "dict") _ _ (by rfl) (by assumption) PyProof.Rows.boot_dict rfl (by decide) (by decide) | exact @IC _ _ (.ty "ValueError") _ _ (by rfl) (by assumption) PyProof.Rows.boot_ValueError rfl (by decide) (by decide)) | ((with_reducible show PE _ (.ListComp ..) _);exact @pB _ _ _ _ _ _ _ _ _ _ _ _ _ rfl (by walk_at "cs") (by walk_at "n") (fun C s' H' ex' pn'=>⟨(by walk_at "g"),(by walk_at "u"),(by walk_at "e")⟩) (by intro _;rfl)) | ((with_reducible show PE _ (.DictComp ..) _);exact @lK _ _ _ _ _ _ _ _ _ _ _ _ _ _ _ rfl hu1 (by walk_at "cs") (by walk_at "n") (fun C s' H' ex' pn'=>⟨(by walk_at "g"),(by walk_at "u"),(by walk_at "e"),(by walk_at "e")⟩) (by intro _;rfl)) | ((with_reducible show PE _ (.Constant ..) _);first | ((with_reducible show PE _ (.Constant (.int _) ..) _);exact @tW _ _ _ _) | ((with_reducible show PE _ (.Constant (.str _) ..) _);exact @tY _ _ _ _) | ((with_reducible show PE _ (.Constant (.bool _) ..) _);exact @xK _ _ _ _) | ((with_reducible show PE _ (.Constant .none ..) _);exact @tX _ _ _)) | ((with_reducible show PE _ (.Call ..) _);first | walk_at "y" | ((with_reducible show PE _ (.Call (.Name (a0Q "len") _) ..) _);exact @DF _ _ _ _ _ _ _ _ _ (@A0t _ K rfl) (by rfl) (by assumption) PySem.boot_len (by walk_at "a") (by decide) (by decide) (by rfl) (by rfl)) | ((with_reducible show PE _ (.Call (.Name (a0Q "isinstance") _) ..) _);exact @DF _ _ _ _ _ _ _ _ _ (@A0w _ K rfl) (by rfl) (by assumption) PyProof.Rows.boot_isinstance (by walk_at "a") (by decide) (by decide) (by rfl) (by rfl)) | ((with_reducible show PE _ (.Call (.Name (a0Q "all") _) ..) _);exact @DF _ _ _ _ _ _ _ _ _ (@A0u _ K rfl rfl) (by rfl) (by assumption) PyProof.Rows.boot_all (by walk_at "a") (by decide) (by decide) (by rfl) (by rfl)) | ((with_reducible show PE _ (.Call (.Name (a0Q "any") _) ..) _);exact @DF _ _ _ _ _ _ _ _ _ (@A0v _ K rfl rfl) (by rfl) (by assumption) PyProof.Rows.boot_any (by walk_at "a") (by decide) (by decide) (by rfl) (by rfl)) | ((with_reducible show PE _ (.Call (.Name (a0Q "sorted") _) ..) _);exact @DF _ _ _ _ _ _ _ _ _ (@wL _ K rfl rfl) (by rfl) (by assumption) b5K (by walk_at "a") (by decide) (by decide) (by rfl) (by rfl)) | ((with_reducible show PE _ (.Call (.Name (a0Q "divmod") _) ..) _);exact @DF _ _ _ _ _ _ _ _ _ (@qL _ K rfl) (by rfl) (by assumption) PyProof.Rows.boot_divmod (by walk_at "a") (by decide) (by decide) (by rfl) (by rfl)) | ((with_reducible show PE _ (.Call (.Name (a0Q "sum") _) ..) _);exact @DF _ _ _ _ _ _ _ _ _ (@A03 _ K rfl rfl) (by rfl) (by assumption) PyProof.Rows.boot_sum (by walk_at "a") (by decide) (by decide) (by rfl) (by rfl)) | ((with_reducible show PE _ (.Call (.Name (a0Q "tuple") _) ..) _);exact @HG _ _ _ _ _ _ _ _ _ (@wB _ K rfl) (by rfl) (by assumption) PyProof.Rows.boot_tuple (by walk_at "a") (by decide) (by decide) (by rfl) (by rfl)) | ((with_reducible show PE _ (.Call (.Name (a0Q "int") _) ..) _);exact @HG _ _ _ _ _ _ _ _ _ (@A01 _ K rfl) (by rfl) (by assumption) PyProof.Rows.boot_int (by walk_at "a") (by decide) (by decide) (by rfl) (by rfl)) | ((with_reducible show PE _ (.Call (.Name ..) ..) _);exact @A0S _ K P w mg base _ _ _ _ _ _ _ _ _ rfl rfl rfl rfl rfl (by with_reducible assumption) (hr.mono (by decide)) rfl (by walk_at "a") (by decide) (by rfl) (by rfl)) | ((with_reducible show PE _ (.Call (.Attribute _ (a0Q "append") _) ..) _);exact @kBm _ K _ _ _ _ _ _ _ _ _ _ _ rfl PySem.F.plainAttrs_list PySem.F.slot_list_append PySem.F.type_list_append (@l6 _) (by walk_at "e") (by walk_at "a") (by rfl) (by rfl) (by rfl) (by rfl) (by rfl)) | walk_at "x") | ((with_reducible show PE _ (.BinOp ..) _);first | ((with_reducible show PE _ (.BinOp _ .Add ..) _);exact @R0 _ _ _ _ _ _ _ _ (@A0T _ K rfl) (by walk_at "e") (by walk_at "e")) | ((with_reducible show PE _ (.BinOp _ .Sub ..) _);exact @R0 _ _ _ _ _ _ _ _ (@uH _) (by walk_at "e") (by walk_at "e")) | ((with_reducible show PE _ (.BinOp _ .Mod ..) _);exact @R0 _ _ _ _ _ _ _ _ (@uI _) (by walk_at "e") (by walk_at "e")) | ((with_reducible show PE _ (.BinOp _ .FloorDiv ..) _);exact @R0 _ _ _ _ _ _ _ _ (@k6 _) (by walk_at "e") (by walk_at "e")) | ((with_reducible show PE _ (.BinOp _ .Pow ..) _);exact @R0 _ _ _ _ _ _ _ _ (@uJ _) (by walk_at "e") (by walk_at "e"))) | ((with_reducible show PE _ (.Compare ..) _);first | walk_at "y" | ((with_reducible show PE _ (.Compare _ [.Eq] ..) _);exact @FC _ _ _ _ _ _ _ _ (@kEq _ K rfl hu) (by walk_at "e") (by walk_at "e") (@H0 _ _ (by decide) (by decide))) | ((with_reducible show PE _ (.Compare _ [.NotEq] ..) _);exact @FC _ _ _ _ _ _ _ _ (@kNe _ K rfl hu) (by walk_at "e") (by walk_at "e") (@H0 _ _ (by decide) (by decide))) | ((with_reducible show PE _ (.Compare _ [.Is] ..) _);exact @FC _ _ _ _ _ _ _ _ (@lG _) (by walk_at "e") (by walk_at "e") (@H0 _ _ (by decide) (by decide))) | ((with_reducible show PE _ (.Compare _ [.IsNot] ..) _);exact @FC _ _ _ _ _ _ _ _ (@dR _) (by walk_at "e") (by walk_at "e") (@H0 _ _ (by decide) (by decide))) | ((with_reducible show PE _ (.Compare _ [.Gt] ..) _);exact @FC _ _ _ _ _ _ _ _ (@sW _) (by walk_at "e") (by walk_at "e") (@H0 _ _ (by decide) (by decide)))) | ((with_reducible show PE _ (.Subscript ..) _);first | ((with_reducible show PE _ (.Subscript _ (.Slice _ _ none _) _) _);exact @jO _ _ _ _ _ _ _ _ _ _ (@A0x _ K rfl) (by walk_at "e") (by walk_at "o") (by walk_at "o")) | walk_at "y" | exact @zE _ _ _ _ _ _ _ (@kIx _ K rfl) (by walk_at "e") (by walk_at "e") (fun _ _=>rfl)) | ((with_reducible show PE _ (.Tuple ..) _);exact @uP _ _ _ _ _ (by walk_at "a")) | ((with_reducible show PE _ (.List ..) _);exact @uQ _ _ _ _ (by walk_at "a")) | ((with_reducible show PE _ (.IfExp ..) _);exact @jC _ _ _ _ _ _ _ _ (by walk_at "t") (by walk_at "e") (by walk_at "e")) | ((with_reducible show PE _ (.BoolOp ..) _);first | ((with_reducible show PE _ (.BoolOp _ [_] _) _);exact @u5 _ _ _ _ _ (by walk_at "e")) | ((with_reducible show PE _ (.BoolOp .Or ..) _);exact @xS _ _ _ _ _ _ _ (by walk_at "e") (by walk_at "e")) | exact @u6 _ _ _ _ _ _ _ (by walk_at "e") (by walk_at "e")) | ((with_reducible show PE _ (.UnaryOp ..) _);first | ((with_reducible show PE _ (.UnaryOp .Not ..) _);exact @u7 _ _ _ _ (by walk_at "e")) | exact @yO _ _ _ _ _ _ (@uK _) (by walk_at "e")) | walk_at "x")
local macro_rules | `(tactic| walk_at "t")=>`(tactic| first | ((with_reducible show PT _ (.Compare ..) _);first | walk_at "y" | ((with_reducible show PT _ (.Compare _ [.Eq] ..) _);exact @CL _ _ _ _ _ _ _ _ (@kEq _ K rfl hu) (by walk_at "e") (by walk_at "e") (@H0 _ _ (by decide) (by decide))) | ((with_reducible show PT _ (.Compare _ [.NotEq] ..) _);exact @CL _ _ _ _ _ _ _ _ (@kNe _ K rfl hu) (by walk_at "e") (by walk_at "e") (@H0 _ _ (by decide) (by decide))) | ((with_reducible show PT _ (.Compare _ [.Is] ..) _);exact @CL _ _ _ _ _ _ _ _ (@lG _) (by walk_at "e") (by walk_at "e") (@H0 _ _ (by decide) (by decide))) | ((with_reducible show PT _ (.Compare _ [.IsNot] ..) _);exact @CL _ _ _ _ _ _ _ _ (@dR _) (by walk_at "e") (by walk_at "e") (@H0 _ _ (by decide) (by decide))) | ((with_reducible show PT _ (.Compare _ [.Gt] ..) _);exact @CL _ _ _ _ _ _ _ _ (@sW _) (by walk_at "e") (by walk_at "e") (@H0 _ _ (by decide) (by decide))) | walk_at "x") | ((with_reducible show PT _ (.BoolOp ..) _);exact @L2.PW.pt _ _ _ (by walk_at "w")) | ((with_reducible show PT _ (.UnaryOp .Not ..) _);exact @u4 _ _ _ _ (by walk_at "t")) | exact @u0 _ _ _ (by walk_at "e") (by intro _;rfl))
local macro_rules | `(tactic| walk_at "w")=>`(tactic| first | ((with_reducible show PW _ (.BoolOp .Or ..) _);first | ((with_reducible show PW _ (.BoolOp _ [_] _) _);exact @pw_or1 _ _ _ _ (by walk_at "t")) | exact @pw_or _ _ _ _ _ _ _ (by walk_at "t") (by walk_at "w")) | ((with_reducible show PW _ (.BoolOp _ [_] _) _);exact @pw_and1 _ _ _ _ (by walk_at "t")) | exact @pw_and _ _ _ _ _ _ _ (by walk_at "t") (by walk_at "w"))
local macro_rules | `(tactic| walk_at "a")=>`(tactic| first | ((with_reducible show PA _ [] _);exact @uM _) | exact @oP _ _ _ _ _ (by walk_at "e") (by walk_at "a") (by rfl))
local macro_rules | `(tactic| walk_at "o")=>`(tactic| first | ((with_reducible show PO _ none _);exact @oR _) | exact @oS _ _ _ (by walk_at "e"))
local macro_rules | `(tactic| walk_at "u")=>`(tactic| first | ((with_reducible show PTs _ [] _);exact @p9 _) | exact @pA _ _ _ (by walk_at "t"))
local macro_rules | `(tactic| walk_at "n")=>`(tactic| first | ((with_reducible show PI _ _ (.Call ..) _);first | ((with_reducible show PI _ _ (.Call (.Name (a0Q "range") _) [_] ..) _);exact @fS _ _ _ _ _ _ rfl (by assumption) (by walk_at "a") (by rfl)) | ((with_reducible show PI _ _ (.Call (.Name (a0Q "range") _) [_,_] ..) _);exact @fT _ _ _ _ _ _ _ rfl (by assumption) (by walk_at "a") (by rfl) (by rfl)) | walk_at "x") | walk_at "y" | exact @A0R _ K _ _ _ rfl (by walk_at "e"))
local macro_rules | `(tactic| walk_at "g")=>`(tactic| first | ((with_reducible show PG _ (.Name ..) _);exact @cU _ _ _ _ (by assumption) (WJ (by rfl)) (by walk_at "lc") (by walk_at "or")) | walk_at "x")
local macro_rules | `(tactic| walk_at "j")=>`(tactic| first | ((with_reducible show PGs _ [] _);exact @oK _) | exact @jE _ _ _ _ _ (by walk_at "g") (by walk_at "j") (by rfl))
local macro_rules | `(tactic| walk_at "b1")=>`(tactic| exact @cT _ _ _ (by walk_at "s"))
local macro_rules | `(tactic| walk_at "b2")=>`(tactic| exact @XH _ _ _ _ _ (by walk_at "s") (by walk_at "q"))
local macro_rules | `(tactic| walk_at "dl")=>`(tactic| first
 | (with_reducible first | refine k9 ?_ | refine dx_seq ?_ | refine k8 ?_ | refine dL ?_ | refine aU ?_ | refine A0O ?_ | refine dJ ?_ | refine dI ?_ | refine ds_setitem ?_ | refine lQ ?_ | refine dx_if ?_ | refine dx_raise1 ?_ | refine dx_raise0 ?_ | refine dx_drop (dex_call ?_) | refine dx_set (dex_call ?_) | refine dx_ret (dex_call ?_) | refine dx_lift (k8 ?_) | refine dx_lift (dL ?_) | refine dx_lift (aU ?_) | refine dx_lift (dJ ?_) | refine dx_lift (dI ?_) | refine dx_lift (ds_setitem ?_) | refine dx_lift (lQ ?_))
 | ((with_reducible apply vF);exact rfl)
 | (with_reducible first | refine vG ?_ | refine A0F ?_ | refine vH ?_ | refine vI ?_ | refine de_cref ?_ | refine A0G ?_ | refine A0H ?_ | refine A0I ?_ | refine k7 ?_ | refine pE ?_ | refine A0q ?_ | refine vJ ?_ | refine A0J ?_ | refine vK ?_ | refine vL ?_ | refine vM ?_ | refine A0K ?_ | refine vN ?_ | refine A0L ?_ | refine vO ?_ | refine pF ?_ | refine A0M ?_ | refine vP ?_ | refine A0N ?_ | refine pI ?_ | refine pJ ?_ | refine pR ?_ | refine kU ?_ | refine qB ?_)
 | ((with_reducible refine wE ?_ ?_);exact rfl)
 | ((with_reducible refine qS ?_ ?_);exact rfl)
 | (with_reducible first | refine A0P ?_ | refine A0r ?_ | refine A0s ?_ | refine kY ?_ | refine d2A_lti ?_)
 | ((with_reducible refine A0Q ?_ ?_);(first
     | ((with_reducible show CMul _ _);first | exact cmul_r (by decide) (by decide) | exact cmul_l (by decide) (by decide) | exact cmul_l (by omega) (by omega))
     | ((with_reducible show tE _ _);first | exact⟨by decide,by decide⟩ | exact⟨by assumption,by assumption⟩)
     | ((with_reducible show z7 _ _);exact⟨by decide,by decide,by decide⟩)
     | (show(0:Int) < _;first | decide | assumption | omega)))
 | ((with_reducible apply pU);(first | assumption | exact zU);exact rfl)
 | ((with_reducible apply A0y);(first | assumption | exact zU);exact rfl)
 | ((with_reducible refine l7 ?_ ?_);(first | exact CMul.ok (cmul_r (by decide) (by decide)) | exact CMul.ok (cmul_l (by decide) (by decide))))
 | (with_reducible first | refine d2_isB ?_ | refine d2_notB ?_ | refine rd_max ?_ | refine rd_min ?_ | refine qM ?_ | refine l8 ?_ | refine rd_abs ?_)
 | ((with_reducible refine kM (b:=true) ?_ ?_);exact rfl)
 | ((with_reducible refine kM (b:=false) ?_ ?_);exact rfl)
 | with_reducible refine pH ?_
 | ((with_reducible apply A0z);exact rfl;exact yD rfl)
 | (with_reducible refine Exists.intro _ (And.intro rfl ?_))
 | (with_reducible refine L2.p7 ?_)
 | (with_reducible refine L2.p6 ?_)
 | (refine L2.p7 ?_)
 | (refine L2.p6 ?_))
local macro_rules | `(tactic| walk_at "r")=>`(tactic| repeat walk_at "dl")
local macro_rules | `(tactic| walk_at "wkd")=>`(tactic| repeat (first | walk_at "dl" | refine D0 ?_ | refine de_dnew ?_))
local macro_rules | `(tactic| walk_at "wks")=>`(tactic| repeat ((fail_if_success (with_reducible show DSt _ _ _ _ _));(first | walk_at "dl" | refine D0 ?_ | refine de_dnew ?_)))
section
variable {P:Program}{w:World}{K:Frg}{mg:Str->Option Value}{base:Heap}
def ZU:List Str:=["thing"]
theorem PL:FnScope ZU ["thing"] (AB IS):=⟨rfl,rfl,rfl,by decide +kernel,rfl,by decide +kernel,by decide +kernel⟩
theorem ZV {f:Addr}{fd:FuncData}(F:Fun K "is_whole" "is_whole" IS f fd) (n_bool:mg "bool"=none) (n_int:mg "int"=none) (n_isinstance:mg "isinstance"=none):FnOk P w K mg base CX0 1 f fd ["thing"] (spD K 1 IF):=by
 refine fnD F PL fun cdv A outer s H E hr=>?_
 have hu:=hr.units
 have nd:=PL.nd
 refine⟨_,by walk_at "b1", ?_⟩
 clear nd
 rintro xs M hl ⟨d,rfl,-⟩
 walk_at "dl";walk_at "dl";walk_at "dl"
 cases d <;>
 · walk_at "r"
   exact⟨M,zT M,fun d' e=>by cases e;exact⟨rfl,rfl⟩⟩
def WY:List Str:=["thing", "low", "high"]
theorem NP:FnScope WY ["thing", "low", "high"] (AB GO):=⟨rfl,rfl,rfl,by decide +kernel,rfl,by decide +kernel,by decide +kernel⟩
section
local macro_rules | `(tactic| walk_at "x")=>`(tactic| first | ((with_reducible show PE _ (.Compare _ [_,_] ..) _);exact @jJ _ _ _ _ _ _ _ _ _ _ _ _ (@cW _) (@cW _) (by walk_at "e") (by walk_at "e") (by walk_at "e") (by with_unfolding_all rfl)))
theorem WZ {f:Addr}{fd:FuncData}(F:Fun K "is_within" "is_within" GO f fd) (h_is_whole:Has P w K mg base "is_whole" 1 ["thing"] IF):FnOk P w K mg base CX0 2 f fd ["thing", "low", "high"] (spD K 3 CO):=by
 refine fnD F NP fun cdv A outer s H E hr=>?_
 have hu:=hr.units
 have nd:=NP.nd
 refine⟨_,by walk_at "b1", ?_⟩
 clear nd
 rintro xs M hl ⟨d,lo,hi,rfl⟩
 walk_at "r"
 refine AZ trivial ?_
 cases d
 case int i=>
   walk_at "r"
   refine jY (fun h=>?_) (fun h=>?_)
   · walk_at "r"
     exact⟨M,zT M,fun d' lo' hi' e=>by cases e;refine⟨?_,rfl⟩;simp only[IG];rw[h];rfl⟩
   · exact⟨M,zT M,fun d' lo' hi' e=>by cases e;refine⟨?_,rfl⟩;simp only[IG];simp at h;simp;omega⟩
 all_goals
   walk_at "r"
   exact⟨M,zT M,fun d' lo' hi' e=>by cases e;exact⟨rfl,rfl⟩⟩
end
def ZW:List Str:=["thing"]
theorem PM:FnScope ZW ["thing"] (AB IT):=⟨rfl,rfl,rfl,by decide +kernel,rfl,by decide +kernel,by decide +kernel⟩
theorem ZX {f:Addr}{fd:FuncData}(F:Fun K "is_place" "is_place" IT f fd) (g_LAST_PLACE:∃t,mg "LAST_PLACE"=some (.int (999) t)) (h_is_within:Has P w K mg base "is_within" 2 ["thing", "low", "high"] CO):FnOk P w K mg base CX0 3 f fd ["thing"] (spD K 1 LZ):=by
 refine fnD F PM fun cdv A outer s H E hr=>?_
 have hu:=hr.units
 have nd:=PM.nd
 refine⟨_,by walk_at "b1", ?_⟩
 clear nd
 rintro xs M hl ⟨d,rfl,-⟩
 walk_at "r"
 refine JR ?_
 exact⟨M,zT M,fun d' e=>by cases e;exact⟨by rw[W3],rfl⟩⟩
def SX:List Str:=["thing"]
def NQ:List Str:=["sign"]
def NR:List (Option Nat):=[none]
theorem X0:NQ.Nodup:=by decide +kernel
theorem SY:FnScope SX ["thing"] (AB HY):=⟨rfl,rfl,rfl,by decide +kernel,rfl,by decide +kernel,by decide +kernel⟩
section
local macro_rules | `(tactic| walk_at "cs")=>`(tactic| first | exact @DY _ _ NQ NR (AB HY) SX (by decide +kernel) (by decide +kernel) rfl rfl)
local macro_rules | `(tactic| walk_at "x")=>`(tactic| first | ((with_reducible show PT _ (.Compare _ [_,_] ..) _);exact @jK _ _ _ _ _ _ _ _ _ _ _ _ (@cW _) (@cW _) (by walk_at "e") (by walk_at "e") (by walk_at "e") (by with_unfolding_all rfl)) | ((with_reducible show PE _ (.Compare _ [.In] ..) _);exact @FC _ _ _ _ _ _ _ _ (@kIn _ K rfl) (by walk_at "e") (by walk_at "e") (by with_unfolding_all rfl)))
theorem cH {f:Addr}{fd:FuncData}(F:Fun K "is_name" "is_name" HY f fd) (n_all:mg "all"=none) (n_isinstance:mg "isinstance"=none) (n_len:mg "len"=none) (n_str:mg "str"=none) (g_LETTERS:∃t,mg "LETTERS"=some (.str ("abcdefghijklmnopqrstuvwxyz") t)) (g_LONGEST_NAME:∃t,mg "LONGEST_NAME"=some (.int (8) t)):FnOk P w K mg base CX0 1 f fd ["thing"] (spD K 1 KK):=by
 refine fnD F SY fun cdv A outer s H E hr=>?_
 have hu:=hr.units
 have nd:=SY.nd
 have n0:=X0
 refine⟨_,by walk_at "b2", ?_⟩
 clear nd n0
 rintro xs M hl ⟨d,rfl,hd⟩
 cases d
 case str z=>
   have hz:z.length<=sizeLine:=zN hd.1 (by decide)
   have hlen:(z.length:Int)=(z.cps.size:Int):=rfl
   walk_at "r"
   refine dN hz ?_
   walk_at "r"
   refine jY (fun h1=>?_) (fun h1=>?_)
   · walk_at "r"
     refine jY (fun h2=>?_) (fun h2=>?_)
     · walk_at "r"
       exact⟨M,zT M,fun d' e=>by cases e;refine⟨?_,rfl⟩;simp only[CZ];simp at h1 h2;rw[hlen] at h1 h2;simp;omega⟩
     · walk_at "r"
       refine AD (AR 0) (by simp[NR]) ?_
       refine pW ?_
       walk_at "r"
       refine⟨by simp only[CB,zX,a3J];exact zQ hd.1 (by decide),fun _=>true,fun d=>.bool (qF d),?_,?_⟩
       · intro d hd' M'
         obtain⟨c,hc,rfl⟩:=zL.mp hd'
         walk_at "dl"
         refine⟨rfl,?_⟩
         walk_at "dl"
         refine⟨rfl,rfl,fun _=>?_⟩
         walk_at "r"
         refine pV ?_
         rw[aY c (hd.2 c hc)]
         exact⟨by simp[qF],rfl⟩
       · walk_at "r"
         rw[gI]
         refine aW ?_
         rw[aZ]
         exact⟨M,zT M,fun d' e=>by cases e;refine⟨?_,rfl⟩;simp only[CZ];simp at h1 h2;rw[hlen] at h1 h2;simp;omega⟩
   · walk_at "r"
     exact⟨M,zT M,fun d' e=>by cases e;refine⟨?_,rfl⟩;simp only[CZ];simp at h1;rw[hlen] at h1;simp;omega⟩
 all_goals
   walk_at "r"
   exact⟨M,zT M,fun d' e=>by cases e;exact⟨rfl,rfl⟩⟩
end
def cI:List Str:=["word"]
theorem SZ:FnScope cI ["word"] (AB KS):=⟨rfl,rfl,rfl,by decide +kernel,rfl,by decide +kernel,by decide +kernel⟩
section
local macro_rules | `(tactic| walk_at "x")=>`(tactic| first | ((with_reducible show PE _ (.Call (.Attribute _ (a0Q "get") _) ..) _);exact @qI _ _ _ _ _ _ _ _ rfl g_FORMS (by walk_at "e") (@L2.M1.mk _ _ _ _ _ _ rfl rfl rfl rfl) (by decide)))
theorem cJ {f:Addr}{fd:FuncData}(F:Fun K "form_of" "form_of" KS f fd) (n_isinstance:mg "isinstance"=none) (n_str:mg "str"=none) (g_FORMS:∃a,mg "FORMS"=some (.ref a)/\GDict w K a HK):FnOk P w K mg base CX0 1 f fd ["word"] (spD K 1 KL):=by
 refine fnD F SZ fun cdv A outer s H E hr=>?_
 have hu:=hr.units
 have nd:=SZ.nd
 refine⟨_,by walk_at "b1", ?_⟩
 clear nd
 rintro xs M hl ⟨d,rfl,-⟩
 cases d
 case str z=>
   walk_at "r"
   refine qJ ?_
   walk_at "r"
   exact⟨M,zT M,fun d' e=>by cases e;exact⟨rfl,rfl⟩⟩
 all_goals
   walk_at "r"
   exact⟨M,zT M,fun d' e=>by cases e;exact⟨rfl,rfl⟩⟩
end
def sH:List Str:=["sign", "part"]
theorem fH:FnScope sH ["sign", "part"] (AB WU):=⟨rfl,rfl,rfl,by decide +kernel,rfl,by decide +kernel,by decide +kernel⟩
theorem sI {f:Addr}{fd:FuncData}(F:Fun K "fits" "fits" WU f fd) (h_is_name:Has P w K mg base "is_name" 1 ["thing"] KK) (h_is_place:Has P w K mg base "is_place" 3 ["thing"] LZ) (h_is_whole:Has P w K mg base "is_whole" 1 ["thing"] IF):FnOk P w K mg base CX0 4 f fd ["sign", "part"] (spD K 2 bR):=by
 refine fnD F fH fun cdv A outer s H E hr=>?_
 have hu:=hr.units
 have nd:=fH.nd
 refine⟨_,by walk_at "b2", ?_⟩
 clear nd
 rintro xs M hl ⟨a,b,rfl,c,rfl,hc,hb⟩
 have hsh:zH (.str ⟨#[c]⟩)=true:=FQ (by show b7X _=true;simp[b7X];omega) (by simp[b1J])
 walk_at "r"
 refine AY hsh (by decide +kernel) ?_
 rw[if_neg nft,C7]
 cases h1:((⟨#[c]⟩:Str)==a0Q "n") with
 | true=>
   walk_at "r"
   refine AZ hb ?_
   exact⟨M,zT M,fun a b e=>by cases e;exact⟨by simp only[MY,h1];rfl,rfl⟩⟩
 | false=>
   walk_at "r"
   refine AY hsh (by decide +kernel) ?_
   rw[if_neg nft,C7]
   cases h2:((⟨#[c]⟩:Str)==a0Q "p") with
   | true=>
     walk_at "r"
     refine AZ trivial ?_
     exact⟨M,zT M,fun a b e=>by cases e;exact⟨by simp only[MY,h1,h2];rfl,rfl⟩⟩
   | false=>
     walk_at "r"
     refine AZ trivial ?_
     exact⟨M,zT M,fun a b e=>by cases e;exact⟨by simp only[MY,h1,h2];rfl,rfl⟩⟩
def ZY:List Str:=["deed"]
theorem PN:FnScope ZY ["deed"] (AB IU):=⟨rfl,rfl,rfl,by decide +kernel,rfl,by decide +kernel,by decide +kernel⟩
section
local macro_rules | `(tactic| walk_at "x")=>`(tactic| first | ((with_reducible show PE _ (.Call (.Attribute _ (a0Q "startswith") _) ..) _);exact @kBm _ K _ _ _ _ _ _ _ _ _ _ _ rfl PySem.F.plainAttrs_str PySem.F.slot_str_startswith PySem.F.type_str_startswith (@YC _ K rfl) (by walk_at "e") (by walk_at "a") (by rfl) (by rfl) (by rfl) (by rfl) (by rfl)))
theorem ZZ {f:Addr}{fd:FuncData}(F:Fun K "names_in" "names_in" IU f fd) (h_form_of:Has P w K mg base "form_of" 1 ["word"] KL):FnOk P w K mg base CX0 2 f fd ["deed"] (spD K 1 G1):=by
 refine fnD F PN fun cdv A outer s H E hr=>?_
 have hu:=hr.units
 have nd:=PN.nd
 refine⟨_,by walk_at "b1", ?_⟩
 clear nd
 rintro xs M hl ⟨d,rfl,w,f,r,rfl,hf⟩
 obtain⟨fa,fs,fn,_,_⟩:=RZ hf
 have hform:RY (.str w) = .str f:=by
   show gN (HK.lookup w)=_
   rw[hf];rfl
 walk_at "r"
 refine dH ?_
 walk_at "r"
 refine AA (d:=.str w) (AC (j:=0) rfl) ?_
 walk_at "r"
 refine AZ trivial ?_
 rw[hform]
 refine⟨pP,?_⟩
 walk_at "r"
 refine gR ?_
 rw[fn]
 cases htw:YR w with
 | true=>
   walk_at "r"
   refine BX ?_
   rw[show EJ (a0K w::r) (some 1) (some 3)=r.take 2 from QO _ 1 3]
   exact⟨M,zT M,fun d' e=>by cases e;refine⟨?_,rfl⟩;simp only[OL,htw];rfl⟩
 | false=>
   walk_at "r"
   refine BX ?_
   rw[show EJ (a0K w::r) (some 1) (some 2)=r.take 1 from QO _ 1 2]
   exact⟨M,zT M,fun d' e=>by cases e;refine⟨?_,rfl⟩;simp only[OL,htw];rfl⟩
end
def T0:List Str:=["thing", "form", "names"]
def NS:List Str:=["sign", "part"]
def NT:List (Option Nat):=[none,none]
theorem X1:NS.Nodup:=by decide +kernel
theorem T1:FnScope T0 ["thing"] (AB HZ):=⟨rfl,rfl,rfl,by decide +kernel,rfl,by decide +kernel,by decide +kernel⟩
section
local macro_rules | `(tactic| walk_at "cs")=>`(tactic| first | exact @DY _ _ NS NT (AB HZ) T0 (by decide +kernel) (by decide +kernel) rfl rfl)
local macro_rules | `(tactic| walk_at "x")=>`(tactic| first | ((with_reducible show PI _ _ (.Call (.Name (a0Q "zip") _) ..) _);exact @A0Y _ K _ _ _ _ _ _ _ _ rfl rfl n_zip (by walk_at "a") (by rfl) (by rfl)) | ((with_reducible show PG _ (.Tuple ..) _);exact @Y3 _ K _ _ _ _ (2) rfl rfl (by walk_at "j") (by rfl) (by rfl)))
theorem cK {f:Addr}{fd:FuncData}(F:Fun K "is_deed" "is_deed" HZ f fd) (n_all:mg "all"=none) (n_isinstance:mg "isinstance"=none) (n_len:mg "len"=none) (n_tuple:mg "tuple"=none) (n_zip:mg "zip"=none) (h_fits:Has P w K mg base "fits" 4 ["sign", "part"] bR) (h_form_of:Has P w K mg base "form_of" 1 ["word"] KL) (h_names_in:Has P w K mg base "names_in" 2 ["deed"] G1):FnOk P w K mg base CX0 5 f fd ["thing"] (spD K 1 HL):=by
 refine fnD F T1 fun cdv A outer s H E hr=>?_
 have hu:=hr.units
 have nd:=T1.nd
 have n0:=X1
 refine⟨_,by walk_at "b2", ?_⟩
 clear nd n0
 rintro xs M hl ⟨d,rfl,hd⟩
 cases d
 case tuple ds=>
   have fin:∀b:Bool,B5 ds=b->∃M2:Own,M2.Sub M/\HL.post [.d (.tuple ds)] M (.d (.bool b)) M2:=fun b hb=>⟨M,zT M,fun d' e=>by cases e;exact⟨by show DS.d (.bool b) = .d (.bool (B5 ds));rw[hb],rfl⟩⟩
   walk_at "r"
   refine GH ?_
   walk_at "r"
   refine AY rfl rfl ?_
   rw[if_neg nft]
   match ds,hd,fin with
   | [],_,fin=>
     walk_at "r"
     exact fin false rfl
   | a::r,hd,fin=>
     rw[show a0X (.int ((a::r).length:Nat)) (.int 0)=false by simp[a0X];omega]
     walk_at "r"
     refine AA (d:=a) (AC (j:=0) rfl) ?_
     walk_at "r"
     refine AZ trivial ?_
     have hnone:DJ (RY a)=true->B5 (a::r)=false:=fun h=>by
       cases a with
       | str w=>
         cases hf:HK.lookup w with
         | none=>simp only[B5,hf]
         | some f=>simp only[RY,hf,gN,DJ] at h;cases h
       | _=>rfl
     cases hn:DJ (RY a) with
     | true=>
       walk_at "r"
       refine dS ?_
       rw[hn]
       walk_at "r"
       exact fin false (hnone hn)
     | false=>
       have hw:∃w f,a = .str w/\HK.lookup w=some f:=by
         cases a with
         | str w=>
           cases hf:HK.lookup w with
           | none=>simp only[RY,hf,gN,DJ] at hn;cases hn
           | some f=>exact⟨w,f,rfl,hf⟩
         | _=>cases hn
       obtain⟨w,f,rfl,hf⟩:=hw
       obtain⟨fa,fs,fn,ft,f1⟩:=RZ hf
       have hform:RY (.str w) = .str f:=by
         show gN (HK.lookup w)=_
         rw[hf];rfl
       have hdl:B5 (.str w::r)=((r.length==f.cps.size)&&IL f r&&(!YR w||!a0X (r.getD 0 .none) (r.getD 1 .none))):=by simp only[B5,hf]
       rw[hform]
       walk_at "r"
       refine dS ?_
       walk_at "r"
       refine GH ?_
       walk_at "r"
       refine dN (zN fs (by decide)) ?_
       walk_at "r"
       refine AY rfl rfl ?_
       rw[if_pos rfl]
       have hcmp:a0X (.int ((a0K w::r).length:Nat)) (.int ((f.length:Int)+1))=(r.length==f.cps.size):=by
         show(((r.length+1:Nat):Int)==((f.cps.size:Int)+1))=_
         rw[a3Z,beq_iff_eq,beq_iff_eq];omega
       rw[hcmp]
       cases hlen:(r.length==f.cps.size) with
       | false=>
         walk_at "r"
         exact fin false (by rw[hdl,hlen];rfl)
       | true=>
         have hl':r.length=f.cps.size:=eq_of_beq hlen
         have hrl:r.length<=4:=by omega
         walk_at "r"
         refine AD (W1 (FF (FF W0))) (by simp[NT]) ?_
         refine qQ ?_
         walk_at "r"
         refine BX ?_
         rw[show EJ (a0K w::r) (some 1) none=r from JT _ 1]
         walk_at "r"
         refine⟨_,_,rfl,fa,by omega,?_,fun _=>true,A0b,?_,?_⟩
         · unfold Y1
           rw[zX,List.length_zip]
           exact zQ (show _<=4 by omega) (by decide)
         · intro d hd' M'
           obtain⟨⟨s1,p1⟩,hm,rfl⟩:=zL.mp hd'
           have hs:s1∈CB f:=(b6Z hm).1
           have hp:p1∈r:=(b6Z hm).2
           obtain⟨c,hc,rfl⟩:=zL.mp hs
           have hc128:c < 128:=by
             have:=Array.all_eq_true'.mp fa c (by simpa using hc)
             simpa using this
           walk_at "r"
           refine⟨rfl,?_⟩
           walk_at "dl"
           refine⟨rfl,rfl,fun _=>?_⟩
           walk_at "r"
           refine l5 ⟨c,rfl,hc128,hd.2 p1 (yV _ hp)⟩ ?_
           exact⟨rfl,rfl⟩
         · rw[lW]
           walk_at "r"
           refine aW ?_
           rw[show(((CB f).zip r).map fun p=>MY p.1 p.2).all id=IL f r by unfold IL;rw[List.all_map];rfl]
           cases hfit:IL f r with
           | false=>
             walk_at "r"
             exact fin false (by rw[hdl,hlen,hfit];rfl)
           | true=>
             walk_at "r"
             refine AZ ⟨w,f,r,rfl,hf⟩ ?_
             rw[show OL (.tuple (.str w::r)) = .tuple (r.take (if YR w then 2 else 1)) from rfl]
             cases htw:YR w with
             | false=>
               match r,hl',hrl,hdl,hfit,fin with
               | [],hl',_,_,_,_=>exact absurd hl' (by show ¬(0=f.cps.size);omega)
               | x::r',hl',hrl,hdl,hfit,fin=>
                 walk_at "r"
                 refine GH ?_
                 walk_at "r"
                 refine AY rfl rfl ?_
                 walk_at "r"
                 exact fin true (by rw[hdl,hlen,hfit,htw];rfl)
             | true=>
               obtain⟨f2,g0,g1⟩:=ft htw
               match r,hl',hrl,hdl,hfit,fin with
               | [],hl',_,_,_,_=>exact absurd hl' (by show ¬(0=f.cps.size);omega)
               | [_],hl',_,_,_,_=>exact absurd hl' (by show ¬(1=f.cps.size);omega)
               | x::y::r',hl',hrl,hdl,hfit,fin=>
                 obtain⟨nx,ny⟩:=lX g0 g1 hfit
                 obtain⟨zx,rfl,hzx⟩:=UP nx
                 obtain⟨zy,rfl,hzy⟩:=UP ny
                 walk_at "r"
                 refine GH ?_
                 walk_at "r"
                 refine AY rfl rfl ?_
                 walk_at "r"
                 refine AA (d:=.str zx) (AC (j:=0) rfl) ?_
                 walk_at "r"
                 refine AA (d:=.str zy) (AC (j:=1) rfl) ?_
                 refine AY (AJ hzx) (AJ hzy) ?_
                 rw[if_pos rfl]
                 exact fin _ (by rw[hdl,hlen,hfit,htw];rfl)
 all_goals
   walk_at "r"
   exact⟨M,zT M,fun d' e=>by cases e;exact⟨rfl,rfl⟩⟩
end
def cL:List Str:=["deed"]
theorem T2:FnScope cL ["deed"] (AB KU):=⟨rfl,rfl,rfl,by decide +kernel,rfl,by decide +kernel,by decide +kernel⟩
section
local macro_rules | `(tactic| walk_at "x")=>`(tactic| first | ((with_reducible show PT _ (.Compare _ [.In] ..) _);exact @CL _ _ _ _ _ _ _ _ (@kIn _ K rfl) (by walk_at "e") (by walk_at "e") (by with_unfolding_all rfl)))
theorem cM {f:Addr}{fd:FuncData}(F:Fun K "made_by" "made_by" KU f fd):FnOk P w K mg base CX0 1 f fd ["deed"] (spD K 1 FR):=by
 refine fnD F T2 fun cdv A outer s H E hr=>?_
 have hu:=hr.units
 have nd:=T2.nd
 refine⟨_,by walk_at "b2", ?_⟩
 clear nd
 rintro xs M hl ⟨d,rfl,D,rfl,hD⟩
 rw[D.d_eq]
 walk_at "r"
 refine AA (d:=.str D.word) (AC (j:=0) rfl) ?_
 walk_at "r"
 refine AY D.word_ok (by decide +kernel) ?_
 rw[if_neg nft,C7,lZ]
 cases hp:D.isPut with
 | true=>
   walk_at "r"
   refine AA (d:=.str D.fst) (AC (j:=1) rfl) ?_
   refine⟨M,zT M,fun d' e=>?_⟩
   cases e
   refine⟨?_,rfl⟩
   cases D <;> first | rfl | cases hp
 | false=>
   walk_at "r"
   refine AA (d:=.str D.word) (AC (j:=0) rfl) ?_
   walk_at "r"
   refine dO (ys:=[a0Q "name", a0Q "split"]) ?_
   rw[A0c,qY]
   cases hn:D.isNS with
   | true=>
     have h2:∃y t,D.rest = .str y::t:=by cases D <;> first | exact⟨_,_,rfl⟩ | cases hn
     obtain⟨y,t,h2⟩:=h2
     walk_at "r"
     refine AA (d:=.str y) (AC (j:=2) (by rw[h2];rfl)) ?_
     refine⟨M,zT M,fun d' e=>?_⟩
     cases e
     refine⟨?_,rfl⟩
     cases D <;> first | (cases hn;done) | (simp only[Deed.rest] at h2;injection h2 with h3 h4;injection h3 with h3;subst h3;rfl)
   | false=>
     walk_at "r"
     refine⟨M,zT M,fun d' e=>?_⟩
     cases e
     refine⟨?_,rfl⟩
     cases D <;> first | rfl | (cases hn;done) | (cases hp;done)
end
def a6:List Str:=["deed"]
theorem PP:FnScope a6 ["deed"] (AB IV):=⟨rfl,rfl,rfl,by decide +kernel,rfl,by decide +kernel,by decide +kernel⟩
section
local macro_rules | `(tactic| walk_at "x")=>`(tactic| first | ((with_reducible show PT _ (.Compare _ [.In] ..) _);exact @CL _ _ _ _ _ _ _ _ (@kIn _ K rfl) (by walk_at "e") (by walk_at "e") (by with_unfolding_all rfl)))
theorem a7 {f:Addr}{fd:FuncData}(F:Fun K "ended_by" "ended_by" IV f fd):FnOk P w K mg base CX0 1 f fd ["deed"] (spD K 1 MB):=by
 refine fnD F PP fun cdv A outer s H E hr=>?_
 have hu:=hr.units
 have nd:=PP.nd
 refine⟨_,by walk_at "b2", ?_⟩
 clear nd
 rintro xs M hl ⟨d,rfl,D,rfl,hD⟩
 rw[D.d_eq]
 walk_at "r"
 refine AA (d:=.str D.word) (AC (j:=0) rfl) ?_
 walk_at "r"
 refine dO (ys:=[a0Q "take", a0Q "name"]) ?_
 rw[A0c,qZ]
 cases hp:D.isTN with
 | true=>
   walk_at "r"
   refine AA (d:=.str D.fst) (AC (j:=1) rfl) ?_
   refine⟨M,zT M,fun d' e=>?_⟩
   cases e
   refine⟨?_,rfl⟩
   cases D <;> first | rfl | cases hp
 | false=>
   walk_at "r"
   refine AA (d:=.str D.word) (AC (j:=0) rfl) ?_
   walk_at "r"
   refine AY D.word_ok (by decide +kernel) ?_
   rw[if_neg nft,C7,hX]
   cases hn:D.isJoin with
   | true=>
     have h2:∃y t,D.rest = .str y::t:=by cases D <;> first | exact⟨_,_,rfl⟩ | cases hn
     obtain⟨y,t,h2⟩:=h2
     walk_at "r"
     refine AA (d:=.str y) (AC (j:=2) (by rw[h2];rfl)) ?_
     refine⟨M,zT M,fun d' e=>?_⟩
     cases e
     refine⟨?_,rfl⟩
     cases D <;> first | (cases hn;done) | (simp only[Deed.rest] at h2;injection h2 with h3 h4;injection h3 with h3;subst h3;rfl)
   | false=>
     walk_at "r"
     refine⟨M,zT M,fun d' e=>?_⟩
     cases e
     refine⟨?_,rfl⟩
     cases D <;> first | rfl | (cases hn;done) | (cases hp;done)
end
def LA:List Str:=["deed", "made"]
def J5:List Str:=["name", "made"]
def J6:List (Option Nat):=[none,some 1]
theorem Q9:J5.Nodup:=by decide +kernel
theorem LB:FnScope LA ["deed"] (AB E3):=⟨rfl,rfl,rfl,by decide +kernel,rfl,by decide +kernel,by decide +kernel⟩
section
local macro_rules | `(tactic| walk_at "cs")=>`(tactic| first | exact @DY _ _ J5 J6 (AB E3) LA (by decide +kernel) (by decide +kernel) rfl rfl)
theorem TN {f:Addr}{fd:FuncData}(F:Fun K "must_stand" "must_stand" E3 f fd) (n_tuple:mg "tuple"=none) (h_made_by:Has P w K mg base "made_by" 1 ["deed"] FR) (h_names_in:Has P w K mg base "names_in" 2 ["deed"] G1):FnOk P w K mg base CX0 3 f fd ["deed"] (spD K 1 FH):=by
 refine fnD F LB fun cdv A outer s H E hr=>?_
 have hu:=hr.units
 have nd:=LB.nd
 have n0:=Q9
 refine⟨_,by walk_at "b2", ?_⟩
 clear nd n0
 rintro xs M hl ⟨d,rfl,D,rfl,hD⟩
 have hsz:(D.names.map a0K).length < sizeLine:=by
   rw[zX];exact zQ (show D.names.length<=2 by cases D <;> simp[Deed.names]) (by decide)
 walk_at "r"
 refine AZ ⟨D,rfl,hD⟩ ?_
 walk_at "r"
 refine AD (AR 0) (by simp[J6]) ?_
 refine CM ?_
 walk_at "r"
 refine AZ (YS D) ?_
 rw[S0]
 refine⟨_,rfl,hsz,fun d=>!a0X d (GJ D.d),id,?_,?_⟩
 · intro d hd M'
   obtain⟨n,hn,rfl⟩:=zL.mp hd
   walk_at "dl"
   refine⟨rfl,?_⟩
   walk_at "r"
   refine AY (AJ (hD n hn)) (e9 hD) ?_
   rw[if_pos rfl]
   refine⟨_,rfl,rfl,rfl,fun _=>?_⟩
   walk_at "r"
   exact⟨rfl,rfl⟩
 · walk_at "r"
   refine FE ?_
   refine⟨M,zT M,fun d' e=>?_⟩
   cases e
   refine⟨?_,rfl⟩
   show DS.d (.tuple _) = .d (.tuple ((YV D.d).map .str))
   unfold YV
   rw[YT,a9Z,xU]
   rfl
end
def PQ:List Str:=["world"]
def LC:List Str:=["name", "place", "count"]
def LE:List (Option Nat):=[none,none,none]
theorem TQ:LC.Nodup:=by decide +kernel
theorem PR:FnScope PQ ["world"] (AB GA):=⟨rfl,rfl,rfl,by decide +kernel,rfl,by decide +kernel,by decide +kernel⟩
section
local macro_rules | `(tactic| walk_at "cs")=>`(tactic| first | exact @DY _ _ LC LE (AB GA) PQ (by decide +kernel) (by decide +kernel) rfl rfl)
local macro_rules | `(tactic| walk_at "x")=>`(tactic| first | ((with_reducible show PG _ (.Tuple ..) _);exact @Y3 _ K _ _ _ _ (3) rfl rfl (by walk_at "j") (by rfl) (by rfl)))
theorem a8 {f:Addr}{fd:FuncData}(F:Fun K "by_names" "by_names" GA f fd):FnOk P w K mg base CX0 1 f fd ["world"] (spD K 1 D8):=by
 refine fnD F PR fun cdv A outer s H E hr=>?_
 have hu:=hr.units
 have hu1:=zQ (a1J (show 1<=64 by decide) _) hu
 have nd:=PR.nd
 have n0:=TQ
 refine⟨_,by walk_at "b1", ?_⟩
 clear nd n0
 rintro xs M hl ⟨w,rfl,nd,hlen⟩
 have hz:w.length < sizeLine:=zP hlen (by decide)
 walk_at "r"
 refine YQ (W1 (FF (FF (FF W0)))) (by simp[LE]) ?_
 refine CM ?_
 walk_at "r"
 have ek:(w.map thD).map nm0=w.map (·.1):=qH w
 refine⟨by rw[zX];exact hz,fun _=>true,nm0,A02,by rw[N1,ek];exact nd,?_,?_⟩
 · intro d hd M'
   obtain⟨t,ht,rfl⟩:=zL.mp hd
   rw[show thD t = .tuple [.str t.1,.int t.2.1,.int t.2.2] from rfl]
   walk_at "r"
   refine⟨rfl,?_⟩
   walk_at "dl"
   refine⟨rfl,rfl,fun _=>?_⟩
   walk_at "r"
   refine⟨rfl,rfl,?_⟩
   walk_at "r"
   exact⟨rfl,rfl⟩
 · intro p hp
   rw[N1,zD]
   refine⟨_,zT _,fun w' e=>⟨p,hp,rfl,?_⟩⟩
   have e:=S6 (show wD w=wD w' by simpa using e)
   subst e
   rfl
end
def GC:List Str:=["things"]
def EV:List Str:=["name", "things"]
def EW:List (Option Nat):=[none,some 0]
theorem KA:EV.Nodup:=by decide +kernel
theorem GD:FnScope GC ["things"] (AB BR):=⟨rfl,rfl,rfl,by decide +kernel,rfl,by decide +kernel,by decide +kernel⟩
section
local macro_rules | `(tactic| walk_at "cs")=>`(tactic| first | exact @DY _ _ EV EW (AB BR) GC (by decide +kernel) (by decide +kernel) rfl rfl)
local macro_rules | `(tactic| walk_at "y")=>`(tactic| first | ((with_reducible show PE _ (.Subscript ..) _);exact @GG _ _ _ _ _ _ hu1 (@pv _ 1 _ _ (by rfl) (by walk_at "lc") (by decide) (by decide)) (@pv _ 0 _ _ (by rfl) (by walk_at "lc") (by decide) (by decide)) (fun _ _=>rfl)))
theorem MK {f:Addr}{fd:FuncData}(F:Fun K "rising_by_names" "rising_by_names" BR f fd) (n_sorted:mg "sorted"=none) (n_tuple:mg "tuple"=none):FnOk P w K mg base CX0 1 f fd ["things"] (spD K 1 B7):=by
 refine fnD F GD fun cdv A outer s H E hr=>?_
 have hu:=hr.units
 have hu1:=zQ (a1J (show 1<=64 by decide) _) hu
 have nd:=GD.nd
 have n0:=KA
 refine⟨_,by walk_at "b1", ?_⟩
 clear nd n0
 rintro xs M hl ⟨p,ts,rfl,m,nd,h64⟩
 walk_at "r"
 refine II (AR 0) (by simp[EW]) ?_
 refine AX ?_
 walk_at "r"
 refine lN m (by unfold tsD;rw[zX];exact h64) fun ss hp hs=>?_
 rw[show(tsD ts).map (·.1)=ts.map (·.1) by unfold tsD;rw[zD];rfl] at hp
 have hlen:ss.length=ts.length:=by have:=hp.length_eq;simpa using this
 refine⟨_,rfl,by rw[zX,hlen];exact zP h64 (by decide),fun _=>true,eB ts,?_,?_⟩
 · rintro d hd A acc M' hA rfl
   obtain⟨s,hs',rfl⟩:=zL.mp hd
   obtain⟨t,ht,et⟩:=zL.mp (hp.mem_iff.mp hs')
   have hlook:AE ts s=some t.2:=by rw[← et];exact FI nd ht
   have hpA:p≠A:=fun e=>by rw[e] at m;rw[hA] at m;cases m
   walk_at "r"
   refine⟨rfl,?_⟩
   walk_at "dl"
   refine⟨rfl,rfl,fun _=>?_⟩
   walk_at "r"
   refine EK ?_
   walk_at "r"
   refine⟨p,tsD ts,s,pcD t.2.1 t.2.2,rfl,rfl,by rw[yH hpA];exact m,by rw[CD,hlook];rfl,?_⟩
   refine FX (yD rfl) ?_
   refine⟨?_,rfl⟩
   simp only[eB,hlook]
   rfl
 · rw[N1,i5 nd hp hs]
   walk_at "r"
   refine FE ?_
   refine⟨M,zT M,fun p' ts' e m' nd'=>?_⟩
   cases e
   have e:=WC (Option.some.inj (m.symm.trans m'))
   subst e
   exact⟨rfl,rfl⟩
end
def X2:List Str:=["things", "name", "more", "place", "count"]
theorem NU:FnScope X2 ["things", "name", "more"] (AB GP):=⟨rfl,rfl,rfl,by decide +kernel,rfl,by decide +kernel,by decide +kernel⟩
section
local macro_rules | `(tactic| walk_at "x")=>`(tactic| first | ((with_reducible show PS _ (.Assign [.Tuple ..] ..) _);exact @O9 _ _ _ _ _ _ (by walk_at "e") (by walk_at "g") (by rfl) (by rfl) (by rfl)) | ((with_reducible show PG _ (.Tuple ..) _);exact @RR _ K _ _ _ _ (2) rfl rfl (by walk_at "j") (by rfl) (by rfl)) | ((with_reducible show PS _ (.Assign [.Subscript ..] ..) _);exact @VO _ _ _ _ _ _ _ _ _ hu1 (by walk_at "e") (by walk_at "e") (by walk_at "e") (by rfl)))
local macro_rules | `(tactic| walk_at "y")=>`(tactic| first | ((with_reducible show PE _ (.Subscript ..) _);exact @GG _ _ _ _ _ _ hu1 (@pv _ 0 _ _ (by rfl) (by walk_at "lc") (by decide) (by decide)) (@pv _ 1 _ _ (by rfl) (by walk_at "lc") (by decide) (by decide)) (fun _ _=>rfl)))
theorem X3 {f:Addr}{fd:FuncData}(F:Fun K "add_count" "add_count" GP f fd):FnOk P w K mg base CX0 1 f fd ["things", "name", "more"] (spD K 3 EN):=by
 refine fnD F NU fun cdv A outer s H E hr=>?_
 have hu:=hr.units
 have hu1:=zQ (a1J (show 1<=64 by decide) _) hu
 have nd:=NU.nd
 refine⟨_,by walk_at "b2", ?_⟩
 clear nd
 rintro xs M hl ⟨p,ts,x,k,v,rfl,m,hlk,h64⟩
 walk_at "dl"
 refine JU ?_
 refine EK ?_
 walk_at "r"
 refine⟨p,tsD ts,x,pcD v.1 v.2,rfl,rfl,m,by rw[CD,hlk];rfl,?_⟩
 rw[show pcD v.1 v.2 = .tuple [.int v.1,.int v.2] from rfl]
 walk_at "r"
 refine MX ?_
 walk_at "r"
 refine⟨p,tsD ts,x,pcD v.1 (v.2+k),rfl,rfl,rfl,m,by unfold tsD;rw[zX];exact zP h64 (by decide),?_⟩
 refine⟨_,zT _,fun p' ts' x' k' e m'=>?_⟩
 cases e
 have e:=WC (Option.some.inj (m.symm.trans m'))
 subst e
 refine⟨rfl,?_⟩
 rw[MZ]
 unfold L0
 rw[hlk]
end
def ML:List Str:=["things", "deed", "made", "name"]
theorem GE:FnScope ML ["things", "deed"] (AB CN):=⟨rfl,rfl,rfl,by decide +kernel,rfl,by decide +kernel,by decide +kernel⟩
section
local macro_rules | `(tactic| walk_at "x")=>`(tactic| first | ((with_reducible show PE _ (.Compare _ [.In] ..) _);exact @tZ _ _ _ _ _ _ (@aT _ _ _ _ _ hu1 (by walk_at "e") (by walk_at "e")) (by with_unfolding_all rfl)))
theorem MM {f:Addr}{fd:FuncData}(F:Fun K "refuse_undoable" "refuse_undoable" CN f fd) (h_is_deed:Has P w K mg base "is_deed" 5 ["thing"] HL) (h_made_by:Has P w K mg base "made_by" 1 ["deed"] FR) (h_names_in:Has P w K mg base "names_in" 2 ["deed"] G1):FnOk P w K mg base CX0 6 f fd ["things", "deed"] (spD K 2 B8):=by
 refine fnD F GE fun cdv A outer s H E hr=>?_
 have hu:=hr.units
 have hu1:=zQ (a1J (show 1<=64 by decide) _) hu
 have nd:=GE.nd
 refine⟨_,by walk_at "b2", ?_⟩
 clear nd
 rintro xs M hl ⟨p,ts,D,rfl,m,hr,ha⟩
 have iD:S3 D.d:=D9 hr
 walk_at "r"
 refine AZ (eG hr.1) ?_
 rw[eF hr]
 walk_at "r"
 refine AZ iD ?_
 walk_at "r"
 refine HA ?_
 refine CM ?_
 walk_at "r"
 refine AZ (YS D) ?_
 rw[S0]
 walk_at "r"
 refine⟨fun k ρ' M'=>M'=M/\∃x:Option DS,ρ'=[some (.loc p),some (.d D.d),some (.d (GJ D.d)),x],⟨rfl,_,rfl⟩,?_,?_⟩
 · rintro k d ρ' M' hd ⟨rfl,x,rfl⟩
   obtain⟨n,hn,rfl⟩:=zL.mp (yN hd)
   have hz:AH n:=hr.1 n hn
   walk_at "r"
   refine dZ ?_
   walk_at "r"
   refine⟨p,tsD ts,n,rfl,rfl,m,?_⟩
   walk_at "r"
   refine AY (AJ hz) (e9 hr.1) ?_
   rw[if_neg nft,rC]
   refine AY rfl rfl ?_
   rw[if_neg nft,i6,CD]
   have e:(((AE ts n).map fun v=>pcD v.1 v.2).isSome==decide (D.made=some n))=false:=by
     rw[b3W,IM]
     have:=EM ha n hn
     by_cases h2:D.made=some n
     · rw[decide_eq_true h2,decide_eq_false (fun q=>(this.mp q) h2)];rfl
     · rw[decide_eq_false h2,decide_eq_true (this.mpr h2)];rfl
   rw[e]
   walk_at "r"
   exact⟨rfl,_,rfl⟩
 · rintro ρ' M' ⟨rfl,x,rfl⟩
   exact⟨_,zT _,rfl,rfl⟩
end
def j4:List Str:=["things", "deed", "word", "name"]
theorem P1:FnScope j4 ["things", "deed"] (AB NM):=⟨rfl,rfl,rfl,by decide +kernel,rfl,by decide +kernel,by decide +kernel⟩
section
local macro_rules | `(tactic| walk_at "x")=>`(tactic| first | ((with_reducible show PS _ (.Assign [.Tuple ..] (.Tuple ..) _) _);exact @jH _ _ (2) (3) _ _ _ _ _ _ _ _ _ _ _ rfl P1.nd rfl rfl (by decide) rfl rfl (by walk_at "a") rfl (by rfl)) | ((with_reducible show PS _ (.Assign [.Subscript ..] ..) _);exact @VO _ _ _ _ _ _ _ _ _ hu1 (by walk_at "e") (by walk_at "e") (by walk_at "e") (by rfl)) | ((with_reducible show PS _ (.Delete ..) _);exact @oZ _ _ _ _ _ _ _ (by walk_at "e") (by walk_at "e")) | ((with_reducible show PE _ (.Call (.Attribute _ (a0Q "pop") _) ..) _);exact @jW _ _ _ _ _ _ _ (by walk_at "e") (by walk_at "e") (@L2.M1.mk _ _ _ _ _ _ rfl rfl rfl rfl)))
local macro_rules | `(tactic| walk_at "y")=>`(tactic| first | ((with_reducible show PE _ (.Subscript ..) _);exact @GG _ _ _ _ _ _ hu1 (@pv _ 0 _ _ (by rfl) (by walk_at "lc") (by decide) (by decide)) (@pv _ 3 _ _ (by rfl) (by walk_at "lc") (by decide) (by decide)) (fun _ _=>rfl)) | ((with_reducible show PE _ (.Subscript ..) _);exact @GG _ _ _ _ _ _ hu1 (@pv _ 0 _ _ (by rfl) (by walk_at "lc") (by decide) (by decide)) (by walk_at "e") (fun _ _=>rfl)))
theorem j5 {f:Addr}{fd:FuncData}(F:Fun K "change" "change" NM f fd) (h_add_count:Has P w K mg base "add_count" 1 ["things", "name", "more"] EN):FnOk P w K mg base CX0 2 f fd ["things", "deed"] (spD K 2 JY):=by
 refine fnD F P1 fun cdv A outer s H E hr=>?_
 have hu:=hr.units
 have hu1:=zQ (a1J (show 1<=64 by decide) _) hu
 have nd:=P1.nd
 refine⟨_,by walk_at "b2", ?_⟩
 clear nd
 rintro xs M hl ⟨p,ts,D,rfl,m,⟨nd,hlen⟩,hr,ha⟩
 have h64:ts.length < 64:=b0V hlen
 have hst:=EM ha
 cases D with
 | put x pl k=>
   have hx:x∉ts.map (·.1):=fun q=>(hst x (by simp[Deed.names])).mp q rfl
   rw[show Deed.d (Deed.put x pl k) = .tuple [.str (a0Q "put"),.str x,.int pl,.int k] from rfl]
   walk_at "r"
   refine AA (d:=.str (a0Q "put")) (AC (j:=0) rfl) ?_
   walk_at "r"
   refine AA (d:=.str x) (AC (j:=1) rfl) ?_
   walk_at "r"
   refine⟨_,_,rfl,?_⟩
   walk_at "r"
   refine AF (t:=true) (by decide +kernel) ?_
   walk_at "r"
   refine MX ?_
   walk_at "r"
   refine AA (d:=.int pl) (AC (j:=2) rfl) ?_
   walk_at "r"
   refine AA (d:=.int k) (AC (j:=3) rfl) ?_
   walk_at "r"
   refine⟨p,tsD ts,x,pcD pl k,rfl,rfl,rfl,m,QU h64,?_⟩
   refine⟨_,zT _,fun p' ts' D' e m'=>?_⟩
   obtain⟨rfl,rfl,rfl⟩:=IN (D:=Deed.put x pl k) m e m'
   refine⟨rfl,?_⟩
   rw[MZ];rfl
 | take x=>
   obtain⟨v,hv⟩:=BK ((hst x (by simp[Deed.names])).mpr (by simp[Deed.made]))
   rw[show Deed.d (Deed.take x) = .tuple [.str (a0Q "take"),.str x] from rfl]
   walk_at "r"
   refine AA (d:=.str (a0Q "take")) (AC (j:=0) rfl) ?_
   walk_at "r"
   refine AA (d:=.str x) (AC (j:=1) rfl) ?_
   walk_at "r"
   refine⟨_,_,rfl,?_⟩
   walk_at "r"
   refine AF (t:=false) (by decide +kernel) ?_
   walk_at "r"
   refine AF (t:=true) (by decide +kernel) ?_
   walk_at "r"
   refine e7 ?_
   walk_at "r"
   refine⟨p,tsD ts,x,rfl,rfl,m,by rw[CD,hv];rfl,?_⟩
   refine⟨_,zT _,fun p' ts' D' e m'=>?_⟩
   obtain⟨rfl,rfl,rfl⟩:=IN (D:=Deed.take x) m e m'
   refine⟨rfl,?_⟩
   rw[S5];rfl
 | move x pl=>
   obtain⟨v,hv⟩:=BK ((hst x (by simp[Deed.names])).mpr (by simp[Deed.made]))
   rw[show Deed.d (Deed.move x pl) = .tuple [.str (a0Q "move"),.str x,.int pl] from rfl]
   walk_at "r"
   refine AA (d:=.str (a0Q "move")) (AC (j:=0) rfl) ?_
   walk_at "r"
   refine AA (d:=.str x) (AC (j:=1) rfl) ?_
   walk_at "r"
   refine⟨_,_,rfl,?_⟩
   walk_at "r"
   refine AF (t:=false) (by decide +kernel) ?_
   walk_at "r"
   refine AF (t:=false) (by decide +kernel) ?_
   walk_at "r"
   refine AF (t:=true) (by decide +kernel) ?_
   walk_at "r"
   refine MX ?_
   walk_at "r"
   refine AA (d:=.int pl) (AC (j:=2) rfl) ?_
   walk_at "r"
   refine EK ?_
   walk_at "r"
   refine⟨p,tsD ts,x,pcD v.1 v.2,rfl,rfl,m,by rw[CD,hv];rfl,?_⟩
   walk_at "r"
   refine AA (ds:=[.int v.1,.int v.2]) (d:=.int v.2) (AC (j:=1) rfl) ?_
   walk_at "r"
   refine⟨p,tsD ts,x,pcD pl v.2,rfl,rfl,rfl,m,QU h64,?_⟩
   refine⟨_,zT _,fun p' ts' D' e m'=>?_⟩
   obtain⟨rfl,rfl,rfl⟩:=IN (D:=Deed.move x pl) m e m'
   refine⟨rfl,?_⟩
   rw[MZ];simp only[doT,hv]
 | count x k=>
   obtain⟨v,hv⟩:=BK ((hst x (by simp[Deed.names])).mpr (by simp[Deed.made]))
   rw[show Deed.d (Deed.count x k) = .tuple [.str (a0Q "count"),.str x,.int k] from rfl]
   walk_at "r"
   refine AA (d:=.str (a0Q "count")) (AC (j:=0) rfl) ?_
   walk_at "r"
   refine AA (d:=.str x) (AC (j:=1) rfl) ?_
   walk_at "r"
   refine⟨_,_,rfl,?_⟩
   walk_at "r"
   refine AF (t:=false) (by decide +kernel) ?_
   walk_at "r"
   refine AF (t:=false) (by decide +kernel) ?_
   walk_at "r"
   refine AF (t:=false) (by decide +kernel) ?_
   walk_at "r"
   refine AF (t:=true) (by decide +kernel) ?_
   walk_at "r"
   refine AA (d:=.int k) (AC (j:=2) rfl) ?_
   walk_at "r"
   refine S7 m hv h64 ?_
   walk_at "r"
   refine⟨_,zT _,fun p' ts' D' e m'=>?_⟩
   obtain⟨rfl,rfl,rfl⟩:=IN (D:=Deed.count x k) m e m'
   refine⟨rfl,?_⟩
   rfl
 | name x y=>
   obtain⟨v,hv⟩:=BK ((hst x (by simp[Deed.names])).mpr (by simp[Deed.made,hr.2.1.symm]))
   rw[show Deed.d (Deed.name x y) = .tuple [.str (a0Q "name"),.str x,.str y] from rfl]
   walk_at "r"
   refine AA (d:=.str (a0Q "name")) (AC (j:=0) rfl) ?_
   walk_at "r"
   refine AA (d:=.str x) (AC (j:=1) rfl) ?_
   walk_at "r"
   refine⟨_,_,rfl,?_⟩
   walk_at "r"
   refine AF (t:=false) (by decide +kernel) ?_
   walk_at "r"
   refine AF (t:=false) (by decide +kernel) ?_
   walk_at "r"
   refine AF (t:=false) (by decide +kernel) ?_
   walk_at "r"
   refine AF (t:=false) (by decide +kernel) ?_
   walk_at "r"
   refine AF (t:=true) (by decide +kernel) ?_
   walk_at "r"
   refine MX ?_
   refine qT ?_
   walk_at "r"
   refine⟨p,tsD ts,rfl,m,?_⟩
   walk_at "r"
   refine⟨tsD ts,x,pcD v.1 v.2,rfl,m,by rw[CD,hv];rfl,?_⟩
   rw[S5]
   walk_at "r"
   refine AA (d:=.str y) (AC (j:=2) rfl) ?_
   refine⟨p,tsD (JX ts x),y,pcD v.1 v.2,rfl,rfl,rfl,zU,QU (zQ (yJ _ _) h64),?_⟩
   rw[yI]
   refine⟨_,zT _,fun p' ts' D' e m'=>?_⟩
   obtain⟨rfl,rfl,rfl⟩:=IN (D:=Deed.name x y) m e m'
   refine⟨rfl,?_⟩
   rw[MZ];simp only[doT,hv]
 | split x y pl k=>
   obtain⟨v,hv⟩:=BK ((hst x (by simp[Deed.names])).mpr (by simp[Deed.made,hr.2.1.symm]))
   rw[show Deed.d (Deed.split x y pl k) = .tuple [.str (a0Q "split"),.str x,.str y,.int pl,.int k] from rfl]
   walk_at "r"
   refine AA (d:=.str (a0Q "split")) (AC (j:=0) rfl) ?_
   walk_at "r"
   refine AA (d:=.str x) (AC (j:=1) rfl) ?_
   walk_at "r"
   refine⟨_,_,rfl,?_⟩
   walk_at "r"
   refine AF (t:=false) (by decide +kernel) ?_
   walk_at "r"
   refine AF (t:=false) (by decide +kernel) ?_
   walk_at "r"
   refine AF (t:=false) (by decide +kernel) ?_
   walk_at "r"
   refine AF (t:=false) (by decide +kernel) ?_
   walk_at "r"
   refine AF (t:=false) (by decide +kernel) ?_
   walk_at "r"
   refine AF (t:=true) (by decide +kernel) ?_
   walk_at "r"
   refine AA (d:=.int k) (AC (j:=4) rfl) ?_
   walk_at "r"
   refine S7 m hv h64 ?_
   walk_at "r"
   refine MX ?_
   walk_at "r"
   refine AA (d:=.int pl) (AC (j:=3) rfl) ?_
   walk_at "r"
   refine AA (d:=.int k) (AC (j:=4) rfl) ?_
   walk_at "r"
   refine AA (d:=.str y) (AC (j:=2) rfl) ?_
   refine⟨p,tsD (L0 ts x (-k)),y,pcD pl k,rfl,rfl,rfl,zU,QU (by rw[m5];exact h64),?_⟩
   rw[yI]
   refine⟨_,zT _,fun p' ts' D' e m'=>?_⟩
   obtain⟨rfl,rfl,rfl⟩:=IN (D:=Deed.split x y pl k) m e m'
   refine⟨rfl,?_⟩
   rw[MZ];rfl
 | join x y=>
   obtain⟨v,hv⟩:=BK ((hst x (by simp[Deed.names])).mpr (by simp[Deed.made]))
   obtain⟨u,hu'⟩:=BK ((hst y (by simp[Deed.names])).mpr (by simp[Deed.made]))
   rw[show Deed.d (Deed.join x y) = .tuple [.str (a0Q "join"),.str x,.str y] from rfl]
   walk_at "r"
   refine AA (d:=.str (a0Q "join")) (AC (j:=0) rfl) ?_
   walk_at "r"
   refine AA (d:=.str x) (AC (j:=1) rfl) ?_
   walk_at "r"
   refine⟨_,_,rfl,?_⟩
   walk_at "r"
   refine AF (t:=false) (by decide +kernel) ?_
   walk_at "r"
   refine AF (t:=false) (by decide +kernel) ?_
   walk_at "r"
   refine AF (t:=false) (by decide +kernel) ?_
   walk_at "r"
   refine AF (t:=false) (by decide +kernel) ?_
   walk_at "r"
   refine AF (t:=false) (by decide +kernel) ?_
   walk_at "r"
   refine AF (t:=false) (by decide +kernel) ?_
   walk_at "r"
   refine EK ?_
   walk_at "r"
   refine AA (d:=.str y) (AC (j:=2) rfl) ?_
   refine⟨p,tsD ts,y,pcD u.1 u.2,rfl,rfl,m,by rw[CD,hu'];rfl,?_⟩
   walk_at "r"
   refine AA (ds:=[.int u.1,.int u.2]) (d:=.int u.2) (AC (j:=1) rfl) ?_
   walk_at "r"
   refine S7 m hv h64 ?_
   walk_at "r"
   refine e7 ?_
   walk_at "r"
   refine AA (d:=.str y) (AC (j:=2) rfl) ?_
   refine⟨p,tsD (L0 ts x u.2),y,rfl,rfl,zU,by rw[CD,b3W,IM,EB,← IM,hu'];rfl,?_⟩
   rw[yI]
   refine⟨_,zT _,fun p' ts' D' e m'=>?_⟩
   obtain⟨rfl,rfl,rfl⟩:=IN (D:=Deed.join x y) m e m'
   refine⟨rfl,?_⟩
   rw[S5];simp only[doT,hu']
end
def sJ:List Str:=["world", "deed", "things"]
theorem fI:FnScope sJ ["world", "deed"] (AB WV):=⟨rfl,rfl,rfl,by decide +kernel,rfl,by decide +kernel,by decide +kernel⟩
theorem sK {f:Addr}{fd:FuncData}(F:Fun K "done" "done" WV f fd) (h_by_names:Has P w K mg base "by_names" 1 ["world"] D8) (h_change:Has P w K mg base "change" 2 ["things", "deed"] JY) (h_refuse_undoable:Has P w K mg base "refuse_undoable" 6 ["things", "deed"] B8) (h_rising_by_names:Has P w K mg base "rising_by_names" 1 ["things"] B7):FnOk P w K mg base CX0 7 f fd ["world", "deed"] (spD K 2 OP):=by
 refine fnD F fI fun cdv A outer s H E hr=>?_
 have hu:=hr.units
 have nd:=fI.nd
 refine⟨_,by walk_at "b2", ?_⟩
 clear nd
 rintro xs M hl ⟨w,D,rfl,hg⟩
 obtain⟨n1,n2⟩:=bT hg
 obtain⟨hc,hr,ha⟩:=hg
 walk_at "r"
 refine HB hc fun p hp=>?_
 walk_at "r"
 refine P9 zU hr ha ?_
 walk_at "r"
 refine YY zU hc hr ha ?_
 rw[yI]
 walk_at "r"
 refine P8 zU n1 n2 ?_
 refine⟨M,(zT M).put hp,fun w' D' e=>?_⟩
 obtain⟨rfl,rfl⟩:=JZ e
 exact⟨rfl,rfl⟩
def X4:List Str:=["world", "deed", "things", "word", "name"]
theorem IX:FnScope X4 ["world", "deed"] (AB GQ):=⟨rfl,rfl,rfl,by decide +kernel,rfl,by decide +kernel,by decide +kernel⟩
section
local macro_rules | `(tactic| walk_at "x")=>`(tactic| first | ((with_reducible show PS _ (.Assign [.Tuple ..] (.Tuple ..) _) _);exact @jH _ _ (3) (4) _ _ _ _ _ _ _ _ _ _ _ rfl IX.nd rfl rfl (by decide) rfl rfl (by walk_at "a") rfl (by rfl)))
local macro_rules | `(tactic| walk_at "y")=>`(tactic| first | ((with_reducible show PE _ (.Subscript ..) _);exact @GG _ _ _ _ _ _ hu1 (@pv _ 2 _ _ (by rfl) (by walk_at "lc") (by decide) (by decide)) (@pv _ 4 _ _ (by rfl) (by walk_at "lc") (by decide) (by decide)) (fun _ _=>rfl)) | ((with_reducible show PE _ (.Subscript ..) _);exact @GG _ _ _ _ _ _ hu1 (@pv _ 2 _ _ (by rfl) (by walk_at "lc") (by decide) (by decide)) (by walk_at "e") (fun _ _=>rfl)))
theorem X5 {f:Addr}{fd:FuncData}(F:Fun K "back_deed" "back_deed" GQ f fd) (h_by_names:Has P w K mg base "by_names" 1 ["world"] D8) (h_refuse_undoable:Has P w K mg base "refuse_undoable" 6 ["things", "deed"] B8):FnOk P w K mg base CX0 7 f fd ["world", "deed"] (spD K 2 EO):=by
 refine fnD F IX fun cdv A outer s H E hr=>?_
 have hu:=hr.units
 have hu1:=zQ (a1J (show 1<=64 by decide) _) hu
 have nd:=IX.nd
 refine⟨_,by walk_at "b2", ?_⟩
 clear nd
 rintro xs M hl ⟨w,D,rfl,hg⟩
 obtain⟨hc,hr,ha⟩:=hg
 have hst:=EM ha
 walk_at "r"
 refine HB hc fun p hp=>?_
 walk_at "r"
 refine P9 zU hr ha ?_
 cases D with
 | put x pl k=>
   rw[show Deed.d (Deed.put x pl k) = .tuple [.str (a0Q "put"),.str x,.int pl,.int k] from rfl]
   walk_at "r"
   refine AA (d:=.str (a0Q "put")) (AC (j:=0) rfl) ?_
   walk_at "r"
   refine AA (d:=.str x) (AC (j:=1) rfl) ?_
   walk_at "r"
   refine⟨_,_,rfl,?_⟩
   walk_at "r"
   refine AF (t:=true) (by decide +kernel) ?_
   walk_at "r"
   refine⟨M,(zT M).put hp,fun w' D' e=>?_⟩
   obtain⟨rfl,rfl⟩:=JZ (D:=Deed.put x pl k) e
   exact⟨rfl,rfl⟩
 | take x=>
   obtain⟨v,hv⟩:=BK ((hst x (by simp[Deed.names])).mpr (by simp[Deed.made]))
   rw[show Deed.d (Deed.take x) = .tuple [.str (a0Q "take"),.str x] from rfl]
   walk_at "r"
   refine AA (d:=.str (a0Q "take")) (AC (j:=0) rfl) ?_
   walk_at "r"
   refine AA (d:=.str x) (AC (j:=1) rfl) ?_
   walk_at "r"
   refine⟨_,_,rfl,?_⟩
   walk_at "r"
   refine AF (t:=false) (by decide +kernel) ?_
   walk_at "r"
   refine AF (t:=true) (by decide +kernel) ?_
   walk_at "r"
   refine EK ?_
   walk_at "r"
   refine⟨p,tsD w,x,pcD v.1 v.2,rfl,rfl,zU,by rw[CD,hv];rfl,?_⟩
   refine FX (yD rfl) ?_
   refine⟨M,(zT M).put hp,fun w' D' e=>?_⟩
   obtain⟨rfl,rfl⟩:=JZ (D:=Deed.take x) e
   exact⟨by simp only[BY,hv];rfl,rfl⟩
 | move x pl=>
   obtain⟨v,hv⟩:=BK ((hst x (by simp[Deed.names])).mpr (by simp[Deed.made]))
   rw[show Deed.d (Deed.move x pl) = .tuple [.str (a0Q "move"),.str x,.int pl] from rfl]
   walk_at "r"
   refine AA (d:=.str (a0Q "move")) (AC (j:=0) rfl) ?_
   walk_at "r"
   refine AA (d:=.str x) (AC (j:=1) rfl) ?_
   walk_at "r"
   refine⟨_,_,rfl,?_⟩
   walk_at "r"
   refine AF (t:=false) (by decide +kernel) ?_
   walk_at "r"
   refine AF (t:=false) (by decide +kernel) ?_
   walk_at "r"
   refine AF (t:=true) (by decide +kernel) ?_
   walk_at "r"
   refine EK ?_
   walk_at "r"
   refine⟨p,tsD w,x,pcD v.1 v.2,rfl,rfl,zU,by rw[CD,hv];rfl,?_⟩
   walk_at "r"
   refine AA (ds:=[.int v.1,.int v.2]) (d:=.int v.1) (AC (j:=0) rfl) ?_
   walk_at "r"
   refine⟨M,(zT M).put hp,fun w' D' e=>?_⟩
   obtain⟨rfl,rfl⟩:=JZ (D:=Deed.move x pl) e
   exact⟨by simp only[BY,hv];rfl,rfl⟩
 | count x k=>
   rw[show Deed.d (Deed.count x k) = .tuple [.str (a0Q "count"),.str x,.int k] from rfl]
   walk_at "r"
   refine AA (d:=.str (a0Q "count")) (AC (j:=0) rfl) ?_
   walk_at "r"
   refine AA (d:=.str x) (AC (j:=1) rfl) ?_
   walk_at "r"
   refine⟨_,_,rfl,?_⟩
   walk_at "r"
   refine AF (t:=false) (by decide +kernel) ?_
   walk_at "r"
   refine AF (t:=false) (by decide +kernel) ?_
   walk_at "r"
   refine AF (t:=false) (by decide +kernel) ?_
   walk_at "r"
   refine AF (t:=true) (by decide +kernel) ?_
   walk_at "r"
   refine AA (d:=.int k) (AC (j:=2) rfl) ?_
   walk_at "r"
   refine⟨M,(zT M).put hp,fun w' D' e=>?_⟩
   obtain⟨rfl,rfl⟩:=JZ (D:=Deed.count x k) e
   exact⟨rfl,rfl⟩
 | name x y=>
   rw[show Deed.d (Deed.name x y) = .tuple [.str (a0Q "name"),.str x,.str y] from rfl]
   walk_at "r"
   refine AA (d:=.str (a0Q "name")) (AC (j:=0) rfl) ?_
   walk_at "r"
   refine AA (d:=.str x) (AC (j:=1) rfl) ?_
   walk_at "r"
   refine⟨_,_,rfl,?_⟩
   walk_at "r"
   refine AF (t:=false) (by decide +kernel) ?_
   walk_at "r"
   refine AF (t:=false) (by decide +kernel) ?_
   walk_at "r"
   refine AF (t:=false) (by decide +kernel) ?_
   walk_at "r"
   refine AF (t:=false) (by decide +kernel) ?_
   walk_at "r"
   refine AF (t:=true) (by decide +kernel) ?_
   walk_at "r"
   refine AA (d:=.str y) (AC (j:=2) rfl) ?_
   walk_at "r"
   refine⟨M,(zT M).put hp,fun w' D' e=>?_⟩
   obtain⟨rfl,rfl⟩:=JZ (D:=Deed.name x y) e
   exact⟨rfl,rfl⟩
 | split x y pl k=>
   rw[show Deed.d (Deed.split x y pl k) = .tuple [.str (a0Q "split"),.str x,.str y,.int pl,.int k] from rfl]
   walk_at "r"
   refine AA (d:=.str (a0Q "split")) (AC (j:=0) rfl) ?_
   walk_at "r"
   refine AA (d:=.str x) (AC (j:=1) rfl) ?_
   walk_at "r"
   refine⟨_,_,rfl,?_⟩
   walk_at "r"
   refine AF (t:=false) (by decide +kernel) ?_
   walk_at "r"
   refine AF (t:=false) (by decide +kernel) ?_
   walk_at "r"
   refine AF (t:=false) (by decide +kernel) ?_
   walk_at "r"
   refine AF (t:=false) (by decide +kernel) ?_
   walk_at "r"
   refine AF (t:=false) (by decide +kernel) ?_
   walk_at "r"
   refine AF (t:=true) (by decide +kernel) ?_
   walk_at "r"
   refine AA (d:=.str y) (AC (j:=2) rfl) ?_
   walk_at "r"
   refine⟨M,(zT M).put hp,fun w' D' e=>?_⟩
   obtain⟨rfl,rfl⟩:=JZ (D:=Deed.split x y pl k) e
   exact⟨rfl,rfl⟩
 | join x y=>
   obtain⟨u,hu'⟩:=BK ((hst y (by simp[Deed.names])).mpr (by simp[Deed.made]))
   rw[show Deed.d (Deed.join x y) = .tuple [.str (a0Q "join"),.str x,.str y] from rfl]
   walk_at "r"
   refine AA (d:=.str (a0Q "join")) (AC (j:=0) rfl) ?_
   walk_at "r"
   refine AA (d:=.str x) (AC (j:=1) rfl) ?_
   walk_at "r"
   refine⟨_,_,rfl,?_⟩
   walk_at "r"
   refine AF (t:=false) (by decide +kernel) ?_
   walk_at "r"
   refine AF (t:=false) (by decide +kernel) ?_
   walk_at "r"
   refine AF (t:=false) (by decide +kernel) ?_
   walk_at "r"
   refine AF (t:=false) (by decide +kernel) ?_
   walk_at "r"
   refine AF (t:=false) (by decide +kernel) ?_
   walk_at "r"
   refine AF (t:=false) (by decide +kernel) ?_
   walk_at "r"
   refine AA (d:=.str y) (AC (j:=2) rfl) ?_
   walk_at "r"
   refine EK ?_
   walk_at "r"
   refine AA (d:=.str y) (AC (j:=2) rfl) ?_
   refine⟨p,tsD w,y,pcD u.1 u.2,rfl,rfl,zU,by rw[CD,hu'];rfl,?_⟩
   refine FX (yD rfl) ?_
   refine⟨M,(zT M).put hp,fun w' D' e=>?_⟩
   obtain⟨rfl,rfl⟩:=JZ (D:=Deed.join x y) e
   exact⟨by simp only[BY,hu'];rfl,rfl⟩
end
def j6:List Str:=["world", "row", "here", "back", "number", "deed"]
theorem VB:FnScope j6 ["world", "row"] (AB NN):=⟨rfl,rfl,rfl,by decide +kernel,rfl,by decide +kernel,by decide +kernel⟩
section
local macro_rules | `(tactic| walk_at "x")=>`(tactic| first | ((with_reducible show PI _ _ (.Call (.Name (a0Q "enumerate") _) ..) _);exact @wW _ K _ _ _ _ _ _ _ rfl rfl n_enumerate (by walk_at "a") (by rfl)) | ((with_reducible show PG _ (.Tuple ..) _);exact @Y3 _ K _ _ _ _ (2) rfl rfl (by walk_at "j") (by rfl) (by rfl)) | ((with_reducible show PS _ (.Try ..) _);exact @A0f _ _ _ _ _ _ (fun _ _ h=>h) (by walk_at "q")))
theorem j7 {f:Addr}{fd:FuncData}(F:Fun K "walked" "walked" NN f fd) (n_enumerate:mg "enumerate"=none) (h_back_deed:Has P w K mg base "back_deed" 7 ["world", "deed"] EO) (h_by_names:Has P w K mg base "by_names" 1 ["world"] D8) (h_done:Has P w K mg base "done" 7 ["world", "deed"] OP) (h_rising_by_names:Has P w K mg base "rising_by_names" 1 ["things"] B7):FnOk P w K mg base CX0 8 f fd ["world", "row"] (spD K 2 K4):=by
 refine fnD F VB fun cdv A outer s H E hr=>?_
 have hu:=hr.units
 have nd:=VB.nd
 refine⟨_,by walk_at "b2", ?_⟩
 clear nd
 rintro xs M hl ⟨w,Ds,rfl,hP⟩
 have hw:=hP.fine
 have hlen:=hP.few
 unfold MG
 walk_at "r"
 refine HB ⟨hw.1.nodup,by omega⟩ fun p hp=>?_
 walk_at "r"
 refine P8 zU hw.1.nodup (by omega) ?_
 rw[i0 hw.1]
 walk_at "r"
 refine MS ?_
 walk_at "r"
 intro A hA
 have hpA:p≠A:=by rintro rfl;rw[zU] at hA;cases hA
 walk_at "wks"
 refine RH (fun ρ1 M1=>M1=(M.put p (tsO w)).put A (.l (bkL w Ds Ds.length))/\∃(x1 x2:Option DS),ρ1=[some (.d (wD w)),some (.d (.tuple (Ds.map Deed.d))),some (.d (wD (wsF w Ds Ds.length))),some (.loc A),x1,x2]) ?_ ?_
 · refine HA ?_
   refine n9 ?_
   walk_at "r"
   have hle:(G5 (Ds.map Deed.d)).length=Ds.length:=by unfold G5;rw[zX,b8Q,zX]
   refine⟨fun k ρ1 M1=>k<=Ds.length/\M1=(M.put p (tsO w)).put A (.l (bkL w Ds k))/\∃(x1 x2:Option DS),ρ1=[some (.d (wD w)),some (.d (.tuple (Ds.map Deed.d))),some (.d (wD (wsF w Ds k))),some (.loc A),x1,x2],⟨xT _,rfl,_,_,rfl⟩,?_,?_⟩
   · rintro k d ρ1 M1 hd ⟨hk,rfl,x1,x2,rfl⟩
     have hkl:k < Ds.length:=by rw[← hle];exact(yT.mp hd).1
     have hD:Ds[k]?=some Ds[k]:=zV hkl
     obtain rfl:d = .tuple [.int (k:Nat),(Ds[k]).d]:=by
       unfold G5 at hd
       rw[zF,List.getElem?_zipIdx,zF,hD] at hd
       simpa using hd.symm
     obtain⟨f1,f2,f3⟩:=WF hP.book hw hlen hk
     have hg:=f3 _ hD
     walk_at "r"
     refine dH ?_
     walk_at "dl"
     refine⟨VU zU,?_⟩
     walk_at "r"
     refine i4 hg ?_
     walk_at "r"
     refine OF zU (by rw[rE];exact zP (show k < 60 by omega) (by decide)) ?_
     walk_at "r"
     refine UX hg ?_
     refine⟨by omega,?_,some (.d (.int (k:Nat))),some (.d (Ds[k]).d),?_⟩
     · rw[yI,mF]
       congr 3
       simp only[bkF,hD]
     · rw[rD hD]
       rfl
   · rintro ρ1 M1 ⟨hk,h⟩
     rw[hle] at h
     exact h
 · rintro ρ1 M1 ⟨rfl,x1,x2,rfl⟩
   refine UK (i:=3) (a:=A) rfl zU ?_
   rw[yG hA]
   walk_at "r"
   refine⟨M,(zT M).put hp,fun w' Ds' e=>?_⟩
   obtain⟨rfl,rfl⟩:=fA e
   refine⟨?_,rfl⟩
   rw[show wsF w Ds Ds.length=JJ w Ds by unfold wsF;rw[a5K]]
end
def sL:List Str:=["world", "row"]
theorem fJ:FnScope sL ["world", "row"] (AB WW):=⟨rfl,rfl,rfl,by decide +kernel,rfl,by decide +kernel,by decide +kernel⟩
theorem sM {f:Addr}{fd:FuncData}(F:Fun K "gone" "gone" WW f fd) (h_walked:Has P w K mg base "walked" 8 ["world", "row"] K4):FnOk P w K mg base CX0 9 f fd ["world", "row"] (spD K 2 SO):=by
 refine fnD F fJ fun cdv A outer s H E hr=>?_
 have hu:=hr.units
 have nd:=fJ.nd
 refine⟨_,by walk_at "b1", ?_⟩
 clear nd
 rintro xs M hl ⟨w,Ds,rfl,hP⟩
 unfold MG
 walk_at "r"
 refine ZC hP ?_
 walk_at "r"
 refine AA (d:=wD (JJ w Ds)) rfl ?_
 refine⟨M,zT M,fun w' Ds' e=>?_⟩
 obtain⟨rfl,rfl⟩:=fA e
 exact⟨rfl,rfl⟩
def PU:List Str:=["book"]
def LF:List Str:=["hand", "deed"]
def LG:List (Option Nat):=[none,none]
theorem TR:LF.Nodup:=by decide +kernel
theorem PV:FnScope PU ["book"] (AB GB):=⟨rfl,rfl,rfl,by decide +kernel,rfl,by decide +kernel,by decide +kernel⟩
section
local macro_rules | `(tactic| walk_at "cs")=>`(tactic| first | exact @DY _ _ LF LG (AB GB) PU (by decide +kernel) (by decide +kernel) rfl rfl)
local macro_rules | `(tactic| walk_at "x")=>`(tactic| first | ((with_reducible show PG _ (.Tuple ..) _);exact @Y3 _ K _ _ _ _ (2) rfl rfl (by walk_at "j") (by rfl) (by rfl)))
theorem a9 {f:Addr}{fd:FuncData}(F:Fun K "deeds_of" "deeds_of" GB f fd) (n_tuple:mg "tuple"=none):FnOk P w K mg base CX0 1 f fd ["book"] (spD K 1 FU):=by
 refine fnD F PV fun cdv A outer s H E hr=>?_
 have hu:=hr.units
 have nd:=PV.nd
 have n0:=TR
 refine⟨_,by walk_at "b1", ?_⟩
 clear nd n0
 rintro xs M hl ⟨w,ls,rfl,hg⟩
 walk_at "r"
 refine AD (W1 (FF (FF W0))) (by simp[LG]) ?_
 refine CM ?_
 walk_at "r"
 refine AA (ds:=[wD w,BC ls]) (d:=BC ls) rfl ?_
 walk_at "r"
 refine⟨by rw[zX];exact zQ hg (by decide),fun _=>true,fun d=>match d with | .tuple [_,b]=>b | d=>d,?_,?_⟩
 · intro d hd M'
   obtain⟨l,hl,rfl⟩:=zL.mp hd
   rw[show AU l = .tuple [.str l.1,l.2.d] from rfl]
   walk_at "r"
   refine⟨rfl,?_⟩
   walk_at "dl"
   refine⟨rfl,rfl,fun _=>?_⟩
   walk_at "r"
   exact⟨rfl,rfl⟩
 · walk_at "r"
   refine FE ?_
   refine⟨M,zT M,fun w' ls' e=>?_⟩
   simp only[List.cons.injEq,DS.d.injEq,and_true] at e
   have e:=EE e
   subst e
   refine⟨?_,rfl⟩
   rw[N1,zD,zD]
   rfl
end
def P2:List Str:=["book", "made"]
def PX:List Str:=["deed"]
def PY:List (Option Nat):=[none]
theorem aA:PX.Nodup:=by decide +kernel
def PZ:List Str:=["number", "name"]
def Q0:List (Option Nat):=[none,none]
theorem aB:PZ.Nodup:=by decide +kernel
theorem VC:FnScope P2 ["book"] (AB IA):=⟨rfl,rfl,rfl,by decide +kernel,rfl,by decide +kernel,by decide +kernel⟩
section
local macro_rules | `(tactic| walk_at "cs")=>`(tactic| first | exact @DY _ _ PX PY (AB IA) P2 (by decide +kernel) (by decide +kernel) rfl rfl | exact @DY _ _ PZ Q0 (AB IA) P2 (by decide +kernel) (by decide +kernel) rfl rfl)
local macro_rules | `(tactic| walk_at "x")=>`(tactic| first | ((with_reducible show PI _ _ (.Call (.Name (a0Q "enumerate") _) ..) _);exact @A0d _ K _ _ _ _ _ _ _ rfl rfl n_enumerate (by walk_at "a") (by rfl)) | ((with_reducible show PG _ (.Tuple ..) _);exact @Y3 _ K _ _ _ _ (2) rfl rfl (by walk_at "j") (by rfl) (by rfl)))
theorem j8 {f:Addr}{fd:FuncData}(F:Fun K "makers" "makers" IA f fd) (n_enumerate:mg "enumerate"=none) (h_deeds_of:Has P w K mg base "deeds_of" 1 ["book"] FU) (h_made_by:Has P w K mg base "made_by" 1 ["deed"] FR):FnOk P w K mg base CX0 2 f fd ["book"] (spD K 1 HS):=by
 refine fnD F VC fun cdv A outer s H E hr=>?_
 have hu:=hr.units
 have hu1:=zQ (a1J (show 1<=64 by decide) _) hu
 have nd:=VC.nd
 have n0:=aA
 have n1:=aB
 refine⟨_,by walk_at "b2", ?_⟩
 clear nd n0 n1
 rintro xs M hl ⟨w,ls,rfl,hg⟩
 have hrl:∀D∈dsL ls,D.real:=fun D hD=>by
   obtain⟨l,h1,rfl⟩:=zL.mp hD
   exact hg.real l h1
 have hsz:ls.length < sizeLine:=zQ hg.few (by decide)
 walk_at "r"
 refine AD (AR 0) (by simp[PY]) ?_
 refine CM ?_
 walk_at "r"
 refine NB hg.few ?_
 refine⟨_,rfl,by rw[zX,zX];exact hsz,fun _=>true,GJ,?_,?_⟩
 · intro d hd M'
   obtain⟨D,hD,rfl⟩:=zL.mp hd
   walk_at "dl"
   refine⟨rfl,?_⟩
   walk_at "dl"
   refine⟨rfl,rfl,fun _=>?_⟩
   walk_at "r"
   refine AZ (D9 (hrl D hD)) ?_
   exact⟨rfl,rfl⟩
 · rw[N1,zD]
   walk_at "r"
   refine YQ (W1 (FF (FF W0))) (by simp[Q0]) ?_
   refine rH ?_
   walk_at "r"
   have emk:(((G5 ((dsL ls).map (GJ∘Deed.d))).filter cEn).map fun d=>(fEn d,wEn d))=mkL (dsL ls) 0:=eU (dsL ls) 0
   refine⟨by unfold G5;rw[zX,b8Q,zX,zX];exact hsz,cEn,fEn,wEn,?_,?_,fun p hp=>?_⟩
   · have:=V2 (dsL ls) 0 hg.fresh.one
     rw[← emk,zD] at this
     exact this
   · intro d hd M'
     obtain⟨q,hq,rfl⟩:=zL.mp hd
     obtain⟨D,hD,eD⟩:∃D∈dsL ls,GJ D.d=q.1:=by
       obtain⟨D,a,b⟩:=zL.mp (List.fst_mem_of_mem_zipIdx hq)
       exact⟨D,a,b⟩
     rw[← eD]
     rcases (show GJ D.d = .none∨∃x,GJ D.d = .str x by rw[QT];cases D.made with | none=>exact .inl rfl | some x=>exact .inr ⟨x,rfl⟩) with e | ⟨x,e⟩ <;> rw[e]
     · walk_at "r"
       refine⟨rfl,?_⟩
       walk_at "r"
       refine RQ ?_
       exact⟨_,rfl,rfl,rfl,fun h=>absurd h nft⟩
     · walk_at "r"
       refine⟨rfl,?_⟩
       walk_at "r"
       refine RQ ?_
       refine⟨_,rfl,rfl,rfl,fun _=>?_⟩
       walk_at "r"
       refine⟨rfl,rfl,?_⟩
       walk_at "r"
       exact⟨rfl,rfl⟩
   · rw[emk]
     refine⟨_,zT _,fun w' ls' e=>?_⟩
     simp only[List.cons.injEq,DS.d.injEq,and_true] at e
     have e:=EE e
     subst e
     exact⟨p,hp,rfl,rfl⟩
end
def TU:List Str:=["book"]
theorem LH:FnScope TU ["book"] (AB FL):=⟨rfl,rfl,rfl,by decide +kernel,rfl,by decide +kernel,by decide +kernel⟩
theorem TV {f:Addr}{fd:FuncData}(F:Fun K "book_world" "book_world" FL f fd) (h_deeds_of:Has P w K mg base "deeds_of" 1 ["book"] FU) (h_gone:Has P w K mg base "gone" 9 ["world", "row"] SO):FnOk P w K mg base CX0 10 f fd ["book"] (spD K 1 DZ):=by
 refine fnD F LH fun cdv A outer s H E hr=>?_
 have hu:=hr.units
 have nd:=LH.nd
 refine⟨_,by walk_at "b1", ?_⟩
 clear nd
 rintro xs M hl ⟨w,ls,rfl,hP,hl50⟩
 walk_at "r"
 refine AA (ds:=[wD w,BC ls]) (d:=wD w) rfl ?_
 walk_at "r"
 refine NB hl50 ?_
 walk_at "r"
 refine iV hP ?_
 refine⟨M,zT M,fun w' ls' e=>?_⟩
 simp only[List.cons.injEq,DS.d.injEq,and_true] at e
 obtain⟨rfl,rfl⟩:=cA e
 exact⟨rfl,rfl⟩
def X6:List Str:=["book", "thing"]
theorem NV:FnScope X6 ["book", "thing"] (AB GR):=⟨rfl,rfl,rfl,by decide +kernel,rfl,by decide +kernel,by decide +kernel⟩
theorem X7 {f:Addr}{fd:FuncData}(F:Fun K "is_number" "is_number" GR f fd) (n_len:mg "len"=none) (h_is_within:Has P w K mg base "is_within" 2 ["thing", "low", "high"] CO):FnOk P w K mg base CX0 3 f fd ["book", "thing"] (spD K 2 DD):=by
 refine fnD F NV fun cdv A outer s H E hr=>?_
 have hu:=hr.units
 have nd:=NV.nd
 refine⟨_,by walk_at "b1", ?_⟩
 clear nd
 rintro xs M hl ⟨w,ls,d,rfl⟩
 walk_at "r"
 refine AA (ds:=[wD w,BC ls]) (d:=BC ls) rfl ?_
 walk_at "r"
 refine GH ?_
 walk_at "r"
 refine JR ?_
 refine⟨M,zT M,fun w' ls' d' e=>?_⟩
 simp only[List.cons.injEq,DS.d.injEq,and_true] at e
 obtain⟨e1,rfl⟩:=e
 have e1:=EE e1
 subst e1
 rw[zX]
 exact⟨rfl,rfl⟩
def aC:List Str:=["book", "number", "made"]
def T3:List Str:=["name", "made"]
def T4:List (Option Nat):=[none,some 2]
theorem cN:T3.Nodup:=by decide +kernel
theorem aD:FnScope aC ["book", "number"] (AB NO):=⟨rfl,rfl,rfl,by decide +kernel,rfl,by decide +kernel,by decide +kernel⟩
section
local macro_rules | `(tactic| walk_at "cs")=>`(tactic| first | exact @DY _ _ T3 T4 (AB NO) aC (by decide +kernel) (by decide +kernel) rfl rfl)
local macro_rules | `(tactic| walk_at "x")=>`(tactic| first | ((with_reducible show PT _ (.Compare _ [.In] ..) _);exact @VH _ _ _ _ _ _ (@aT _ _ _ _ _ hu1 (by walk_at "e") (by walk_at "e")) (by with_unfolding_all rfl)))
local macro_rules | `(tactic| walk_at "y")=>`(tactic| first | ((with_reducible show PE _ (.Call (.Name (a0Q "sorted") _) ..) _);exact @DF _ _ _ _ _ _ _ _ _ (@mL _ K rfl rfl) (by rfl) n_sorted b5K (by walk_at "a") (by decide) (by decide) (by rfl) (by rfl)) | ((with_reducible show PE _ (.Subscript ..) _);exact @GG _ _ _ _ _ _ hu1 (@pv _ 1 _ _ (by rfl) (by walk_at "lc") (by decide) (by decide)) (@pv _ 0 _ _ (by rfl) (by walk_at "lc") (by decide) (by decide)) (fun _ _=>rfl)))
theorem o9 {f:Addr}{fd:FuncData}(F:Fun K "needs" "needs" NO f fd) (n_sorted:mg "sorted"=none) (n_tuple:mg "tuple"=none) (h_is_number:Has P w K mg base "is_number" 3 ["book", "thing"] DD) (h_makers:Has P w K mg base "makers" 2 ["book"] HS) (h_must_stand:Has P w K mg base "must_stand" 3 ["deed"] FH):FnOk P w K mg base CX0 4 f fd ["book", "number"] (spD K 2 N9):=by
 refine fnD F aD fun cdv A outer s H E hr=>?_
 have hu:=hr.units
 have hu1:=zQ (a1J (show 1<=64 by decide) _) hu
 have nd:=aD.nd
 have n0:=cN
 refine⟨_,by walk_at "b2", ?_⟩
 clear nd n0
 rintro xs M hl ⟨w,ls,k,rfl,hg,hk⟩
 obtain⟨l,hlk,hlm,hll,hld⟩:=QX hk
 have hr:=hg.real l hlm
 walk_at "r"
 refine SN ?_
 rw[mV hk]
 walk_at "r"
 refine PF hg fun p hp=>?_
 walk_at "r"
 refine II (AR 0) (by simp[T4]) ?_
 refine CM ?_
 walk_at "r"
 refine AA (ds:=[wD w,BC ls]) (d:=BC ls) rfl ?_
 walk_at "r"
 refine AA (ds:=ls.map AU) (AC hll) ?_
 walk_at "r"
 refine AA (ds:=[.str l.1,l.2.d]) (d:=l.2.d) rfl ?_
 walk_at "r"
 refine AZ (D9 hr) ?_
 rw[eQ]
 have hml:(l.2.must).length<=2:=zN (yJ _ _) (by cases l.2 <;> simp[Deed.names])
 refine⟨_,rfl,by rw[zX];exact zQ hml (by decide),cMk (dsL ls),fMk (dsL ls),?_,?_⟩
 · rintro d hd A acc M' hA rfl
   obtain⟨n,hn,rfl⟩:=zL.mp hd
   have hpA:p≠A:=by rintro rfl;rw[zU] at hA;cases hA
   walk_at "dl"
   refine⟨rfl,?_⟩
   walk_at "r"
   refine dZ ?_
   walk_at "r"
   refine⟨p,mkL (dsL ls) 0,n,rfl,rfl,by rw[yH hpA];exact zU,?_⟩
   refine⟨_,rfl,rfl,rfl,fun hc=>?_⟩
   obtain⟨v,hv⟩:=xY.mp (show(B1 (mkL (dsL ls) 0) n).isSome=true from hc)
   refine EK ?_
   walk_at "r"
   refine⟨p,mkL (dsL ls) 0,n,v,rfl,rfl,by rw[yH hpA];exact zU,hv,?_,rfl⟩
   show DS.d v = .d ((B1 (mkL (dsL ls) 0) n).getD .none)
   rw[hv];rfl
 · rw[iR hg.fresh]
   walk_at "r"
   refine mM (by rw[zX];exact zQ (zN (yJ _ _) hml) (by decide)) fun ss hp2 hs=>?_
   walk_at "r"
   refine FE ?_
   refine⟨M,(zT M).put hp,fun w' ls' k' e=>?_⟩
   simp only[List.cons.injEq,DS.d.injEq,PyData.int.injEq,and_true] at e
   obtain⟨e1,e2⟩:=e
   have e1:=EE e1
   have e2:k=k':=by omega
   subst e1 e2
   rw[mR hg.fresh hld (c7 hr) rfl hp2 hs]
   exact⟨rfl,rfl⟩
end
def E6:List Str:=["book", "struck", "thing", "ends", "number", "going"]
def F8:List Str:=["number"]
def F9:List (Option Nat):=[none]
theorem L1:F8.Nodup:=by decide +kernel
def FA:List Str:=["need", "ends"]
def FB:List (Option Nat):=[none,some 3]
theorem L3:FA.Nodup:=by decide +kernel
theorem GU:FnScope E6 ["book", "struck"] (AB BH):=⟨rfl,rfl,rfl,by decide +kernel,rfl,by decide +kernel,by decide +kernel⟩
section
local macro_rules | `(tactic| walk_at "cs")=>`(tactic| first | exact @DY _ _ F8 F9 (AB BH) E6 (by decide +kernel) (by decide +kernel) rfl rfl | exact @DY _ _ FA FB (AB BH) E6 (by decide +kernel) (by decide +kernel) rfl rfl)
local macro_rules | `(tactic| walk_at "x")=>`(tactic| first | ((with_reducible show PT _ (.Compare _ [.In] ..) _);exact @VH _ _ _ _ _ _ (@aT _ _ _ _ _ hu1 (by walk_at "e") (by walk_at "e")) (by with_unfolding_all rfl)) | ((with_reducible show PT _ (.Compare _ [.NotIn] ..) _);exact @VH _ _ _ _ _ _ (@gB _ _ _ _ _ hu1 (by walk_at "e") (by walk_at "e")) (by with_unfolding_all rfl)) | ((with_reducible show PS _ (.Assign [.Subscript ..] ..) _);exact @VO _ _ _ _ _ _ _ _ _ hu1 (by walk_at "e") (by walk_at "e") (by walk_at "e") (by rfl)))
local macro_rules | `(tactic| walk_at "y")=>`(tactic| first | ((with_reducible show PE _ (.Subscript ..) _);exact @GG _ _ _ _ _ _ hu1 (@pv _ 3 _ _ (by rfl) (by walk_at "lc") (by decide) (by decide)) (by walk_at "e") (fun _ _=>rfl)))
theorem NW {f:Addr}{fd:FuncData}(F:Fun K "chains_by_ends" "chains_by_ends" BH f fd) (n_len:mg "len"=none) (n_range:mg "range"=none) (h_is_number:Has P w K mg base "is_number" 3 ["book", "thing"] DD) (h_needs:Has P w K mg base "needs" 4 ["book", "number"] N9):FnOk P w K mg base CX0 5 f fd ["book", "struck"] (spD K 2 (SB mY)):=by
 refine fnD F GU fun cdv A outer s H E hr=>?_
 have hu:=hr.units
 have hu1:=zQ (a1J (show 1<=64 by decide) _) hu
 have nd:=GU.nd
 have n0:=L1
 have n1:=L3
 refine⟨_,by walk_at "b2", ?_⟩
 clear nd n0 n1
 rintro xs M hl ⟨w,ls,ns,rfl,hg,hd,hn⟩
 walk_at "wks"
 refine RH (fun ρ1 M1=>M1=M/\∃x:Option DS,ρ1=[some (.d (AL w ls)),some (.d (.tuple (AG ns))),x,none,none,none]) ?_ ?_
 · refine HA ?_
   refine CM ?_
   walk_at "r"
   refine⟨fun k ρ1 M1=>M1=M/\∃x:Option DS,ρ1=[some (.d (AL w ls)),some (.d (.tuple (AG ns))),x,none,none,none],⟨rfl,_,rfl⟩,?_,fun ρ1 M1 h=>h⟩
   rintro k d ρ1 M1 hk ⟨rfl,x,rfl⟩
   walk_at "r"
   refine SN ?_
   rw[mW hn d (yN hk)]
   walk_at "r"
   exact⟨rfl,_,rfl⟩
 · rintro ρ1 M1 ⟨rfl,x0,rfl⟩
   have hn2:∀m∈ns,m < (dsL ls).length:=fun m hm=>by rw[zX];exact hn m hm
   have hlD:(dsL ls).length=ls.length:=zX _
   have hfew:=hg.few
   walk_at "r"
   refine iI (AR 0) (by simp[F9]) ?_
   refine CM ?_
   walk_at "r"
   refine⟨by rw[BJ];exact zQ hd (by decide),fun _=>true,rK,fun d=>.tuple [d],trivial,?_,fun p hp=>?_⟩
   · intro d hd' M'
     obtain⟨i,hi,rfl⟩:=zL.mp hd'
     walk_at "dl"
     refine⟨rfl,?_⟩
     walk_at "dl"
     refine⟨rfl,rfl,fun _=>?_⟩
     walk_at "r"
     refine⟨rfl,rfl,?_⟩
     walk_at "r"
     exact⟨rfl,rfl⟩
   rw[N1,show(AG ns).foldl (fun ts d=>JK ts (rK d) (.tuple [d])) []=cvE (BI (dsL ls) ns 0) from eY ns []]
   walk_at "r"
   · refine HA ?_
     refine MT ?_
     walk_at "r"
     refine AA (ds:=[wD w,BC ls]) (d:=BC ls) rfl ?_
     walk_at "r"
     refine GH ?_
     rw[zX]
     walk_at "r"
     refine⟨by omega,by omega,?_⟩
     have hnn:(CC 0 (ls.length:Int).toNat).length=ls.length:=by simp[CC]
     refine⟨fun k ρ1 M2=>k<=ls.length/\M2=M1.put p (.d (BL (cvE (BI (dsL ls) ns k))))/\∃(x1 x2 x3:Option DS),ρ1=[some (.d (AL w ls)),some (.d (.tuple (AG ns))),x1,some (.loc p),x2,x3],⟨xT _,rfl,_,_,_,rfl⟩,?_,?_⟩
     · rintro k d ρ1 M2 hd' ⟨hk0,rfl,x1,x2,x3,rfl⟩
       have hk:k < ls.length:=by rw[← hnn];exact(yT.mp hd').1
       have ed:d = .int k:=by
         unfold CC at hd'
         rw[zF,yA (by omega)] at hd'
         simp at hd';exact hd'.symm
       subst ed
       have hlen:=ZA hn2 k (by omega)
       have hneed:(CF (dsL ls) k).length<=k:=by
         unfold CF
         exact zN (yJ _ _) (by rw[xZ];exact zR _)
       walk_at "r"
       refine II (AR 0) (by simp[FB]) ?_
       refine CM ?_
       walk_at "r"
       refine c5 hg hk ?_
       refine⟨_,rfl,by rw[BJ];exact zQ (show _<=50 by omega) (by decide),cGo (BI (dsL ls) ns k),id,?_,?_⟩
       · rintro d hd2 A acc M' hA rfl
         obtain⟨i,hi,rfl⟩:=zL.mp hd2
         have hpA:p≠A:=by rintro rfl;rw[zU] at hA;cases hA
         walk_at "dl"
         refine⟨rfl,?_⟩
         walk_at "r"
         refine mG ?_
         walk_at "r"
         refine⟨p,cvE (BI (dsL ls) ns k),i,rfl,rfl,by rw[yH hpA];exact zU,?_⟩
         refine⟨_,rfl,rfl,rfl,fun _=>?_⟩
         walk_at "r"
         exact⟨rfl,rfl⟩
       rw[n4]
       walk_at "r"
       refine iH ?_
       walk_at "r"
       refine⟨p,cvE (BI (dsL ls) ns k),(k:Int),rfl,rfl,zU,?_⟩
       rw[QW]
       have keep:∀{x1 x2 x3:Option DS},J2 (dsL ls) (BI (dsL ls) ns k) k=BI (dsL ls) ns k->(k+1<=ls.length/\M1.put p (.d (BL (cvE (BI (dsL ls) ns k))))=M1.put p (.d (BL (cvE (BI (dsL ls) ns (k+1)))))/\∃(y1 y2 y3:Option DS),[some (DS.d (AL w ls)),some (.d (.tuple (AG ns))),x1,some (.loc p),x2,x3]=[some (.d (AL w ls)),some (.d (.tuple (AG ns))),y1,some (.loc p),y2,y3]):=fun h=>⟨by omega,by rw[SM,h],_,_,_,rfl⟩
       cases hk2:F7 (BI (dsL ls) ns k) k with
       | some c0=>
         walk_at "r"
         refine keep ?_
         unfold J2
         cases EZ (dsL ls) (BI (dsL ls) ns k) k with
         | nil=>rfl
         | cons g r=>dsimp only;rw[hk2];rfl
       | none=>
         walk_at "r"
         refine KJ ?_
         cases hgo:EZ (dsL ls) (BI (dsL ls) ns k) k with
         | nil=>
           walk_at "r"
           refine keep ?_
           unfold J2;rw[hgo]
         | cons g r=>
           have hgm:g∈EZ (dsL ls) (BI (dsL ls) ns k) k:=by rw[hgo];simp
           obtain⟨c,hc⟩:=xY.mp (yL.mp hgm).2
           have hch:=((N8 hn2 k (by omega)).1).ch _ (SK hc)
           walk_at "r"
           rw[if_pos (decide_eq_true (by rw[BJ,yR];omega))]
           refine mH ?_
           walk_at "r"
           refine iG ?_
           walk_at "r"
           refine D6 (ds:=AG (g::r)) (d:=.int (g:Int)) (AC (j:=0) rfl) ?_
           refine⟨p,cvE (BI (dsL ls) ns k),(g:Int),chD c,rfl,rfl,zU,by rw[QW,hc];rfl,?_⟩
           walk_at "r"
           refine FX (as:=AG c) (bs:=[.int (k:Int)]) (by rw[BJ];exact zN (show c.length+1<=51 by have hcl:c.length<=_:=iQ hch;omega) (by decide)) ?_
           walk_at "r"
           refine⟨p,cvE (BI (dsL ls) ns k),(k:Int),chD (c++[k]),?_,rfl,rfl,zU,by unfold cvE;rw[zX];exact zQ (show _<=50 by omega) (by decide),?_⟩
           · unfold chD EY
             rw[xI,xI]
             rfl
           rw[yI,mT]
           refine⟨by omega,?_,_,_,_,rfl⟩
           rw[SM]
           unfold J2
           rw[hgo]
           dsimp only
           rw[hk2,hc]
           rfl
     · rintro ρ1 M2 ⟨hk0,rfl,x1,x2,x3,rfl⟩
       walk_at "r"
       refine⟨_,zT _,fun w' ls' ns' e'=>?_⟩
       obtain⟨e1,e2⟩:=mX e'
       subst e1
       obtain rfl:=HR e2
       rw[hnn]
       refine⟨p,hp,rfl,?_⟩
       unfold wU
       rw[hlD]
end
def sN:List Str:=["book", "struck"]
theorem fK:FnScope sN ["book", "struck"] (AB WX):=⟨rfl,rfl,rfl,by decide +kernel,rfl,by decide +kernel,by decide +kernel⟩
section
local macro_rules | `(tactic| walk_at "y")=>`(tactic| first | ((with_reducible show PE _ (.Call (.Name (a0Q "sorted") _) ..) _);exact @DF _ _ _ _ _ _ _ _ _ (@mL _ K rfl rfl) (by rfl) n_sorted b5K (by walk_at "a") (by decide) (by decide) (by rfl) (by rfl)))
theorem sO {f:Addr}{fd:FuncData}(F:Fun K "goes" "goes" WX f fd) (n_sorted:mg "sorted"=none) (n_tuple:mg "tuple"=none) (h_chains_by_ends:Has P w K mg base "chains_by_ends" 5 ["book", "struck"] (SB mY)):FnOk P w K mg base CX0 6 f fd ["book", "struck"] (spD K 2 (SB mZ)):=by
 refine fnD F fK fun cdv A outer s H E hr=>?_
 have hu:=hr.units
 have nd:=fK.nd
 refine⟨_,by walk_at "b1", ?_⟩
 clear nd
 rintro xs M hl ⟨w,ls,ns,rfl,hg,hd,hn⟩
 have hn2:∀m∈ns,m < (dsL ls).length:=fun m hm=>by rw[zX];exact hn m hm
 have hl2:=ZA hn2 _ (zR _)
 have hfew:=hg.few
 rw[zX] at hl2
 walk_at "r"
 refine eT hg hd hn fun y M' hf=>?_
 obtain⟨p,hp,rfl,rfl⟩:=hf
 walk_at "r"
 refine iJ zU ?_ fun ss hpm hs=>?_
 · unfold cvE wU;rw[zX,zX];omega
 walk_at "r"
 refine FE ?_
 refine⟨M,(zT M).put hp,fun w' ls' ns' e'=>?_⟩
 obtain⟨e1,e2⟩:=mX e'
 subst e1
 obtain rfl:=HR e2
 refine⟨?_,rfl⟩
 rw[Z8 hn2 hpm hs]
 rfl
end
def T5:List Str:=["book", "numbers"]
def NX:List Str:=["number", "book"]
def NY:List (Option Nat):=[none,some 0]
theorem X8:NX.Nodup:=by decide +kernel
theorem T6:FnScope T5 ["book", "numbers"] (AB IB):=⟨rfl,rfl,rfl,by decide +kernel,rfl,by decide +kernel,by decide +kernel⟩
section
local macro_rules | `(tactic| walk_at "cs")=>`(tactic| first | exact @DY _ _ NX NY (AB IB) T5 (by decide +kernel) (by decide +kernel) rfl rfl)
theorem cO {f:Addr}{fd:FuncData}(F:Fun K "book_of" "book_of" IB f fd) (n_tuple:mg "tuple"=none):FnOk P w K mg base CX0 1 f fd ["book", "numbers"] (spD K 2 ER):=by
 refine fnD F T6 fun cdv A outer s H E hr=>?_
 have hu:=hr.units
 have nd:=T6.nd
 have n0:=X8
 refine⟨_,by walk_at "b1", ?_⟩
 clear nd n0
 rintro xs M hl ⟨w,ls,κ,rfl,hκ,hl60⟩
 walk_at "r"
 refine AA (ds:=[wD w,BC ls]) (d:=wD w) rfl ?_
 walk_at "r"
 refine AD (AR 0) (by simp[NY]) ?_
 refine AX ?_
 walk_at "r"
 refine⟨by rw[BJ];exact zQ hl60 (by decide),fun _=>true,fLn ls,?_,?_⟩
 · intro d hd M'
   obtain⟨i,hi,rfl⟩:=zL.mp hd
   obtain⟨k,hk,rfl⟩:=CQ.mp hi
   obtain⟨l,hlk,hlm,hll,hld⟩:=QX (hκ k hk)
   walk_at "dl"
   refine⟨rfl,?_⟩
   walk_at "dl"
   refine⟨rfl,rfl,fun _=>?_⟩
   walk_at "r"
   refine AA (ds:=[wD w,BC ls]) (d:=BC ls) rfl ?_
   walk_at "r"
   refine AA (ds:=ls.map AU) (AC hll) ?_
   refine⟨?_,rfl⟩
   show _=DS.d ((ls.map AU).getD ((k:Int)).toNat .none)
   rw[a4Q,yU,hll];rfl
 rw[N1,MH hκ]
 walk_at "r"
 refine FE ?_
 walk_at "r"
 refine⟨M,zT M,fun w' ls' κ' e=>?_⟩
 simp only[List.cons.injEq,DS.d.injEq,PyData.list.injEq,and_true] at e
 obtain⟨e1,e2⟩:=e
 obtain⟨e3,e4⟩:=OY e1
 have e2:=HR e2
 subst e4 e2
 refine⟨?_,rfl⟩
 show DS.d (.tuple [wD w,_])=DS.d (.tuple [wD w',_])
 rw[e3]
end
def LI:List Str:=["book", "numbers", "name"]
def J7:List Str:=["number", "name", "book"]
def J8:List (Option Nat):=[none,some 2,some 0]
theorem QA:J7.Nodup:=by decide +kernel
theorem LJ:FnScope LI ["book", "numbers", "name"] (AB E4):=⟨rfl,rfl,rfl,by decide +kernel,rfl,by decide +kernel,by decide +kernel⟩
section
local macro_rules | `(tactic| walk_at "cs")=>`(tactic| first | exact @DY _ _ J7 J8 (AB E4) LI (by decide +kernel) (by decide +kernel) rfl rfl)
local macro_rules | `(tactic| walk_at "x")=>`(tactic| first | ((with_reducible show PT _ (.Compare _ [.In] ..) _);exact @CL _ _ _ _ _ _ _ _ (@wS _ K rfl hu) (by walk_at "e") (by walk_at "e") (by with_unfolding_all rfl)))
theorem TX {f:Addr}{fd:FuncData}(F:Fun K "asking_for" "asking_for" E4 f fd) (n_tuple:mg "tuple"=none) (h_must_stand:Has P w K mg base "must_stand" 3 ["deed"] FH):FnOk P w K mg base CX0 4 f fd ["book", "numbers", "name"] (spD K 3 NE):=by
 refine fnD F LJ fun cdv A outer s H E hr=>?_
 have hu:=hr.units
 have nd:=LJ.nd
 have n0:=QA
 refine⟨_,by walk_at "b1", ?_⟩
 clear nd n0
 rintro xs M hl ⟨w,A,κ,e,rfl,hg,hκ,hl60,he⟩
 walk_at "r"
 refine AD (AR 0) (by simp[J8]) ?_
 refine AX ?_
 walk_at "r"
 refine⟨by rw[BJ];exact zQ hl60 (by decide),tN A e,id,?_,?_⟩
 · intro d hd M'
   obtain⟨i,hi,rfl⟩:=zL.mp hd
   obtain⟨k,hk,rfl⟩:=CQ.mp hi
   obtain⟨l,hlk,hlm,hll,hld⟩:=QX (hκ k hk)
   have hr:=hg.real l hlm
   walk_at "dl"
   refine⟨rfl,?_⟩
   walk_at "r"
   refine AA (ds:=[wD w,BC A]) (d:=BC A) rfl ?_
   walk_at "r"
   refine AA (ds:=A.map AU) (AC hll) ?_
   walk_at "r"
   refine AA (ds:=[.str l.1,l.2.d]) (d:=l.2.d) rfl ?_
   walk_at "r"
   refine AZ (D9 hr) ?_
   rw[eQ]
   refine KP (ds:=l.2.must.map .str) (PH he) (K5 fun z hz=>V4 hr hz) ?_
   rw[if_neg nft,rP hld]
   refine⟨_,rfl,rfl,?_,fun _=>?_⟩
   · show L9 A e k=L9 A e ((k:Int)).toNat
     rw[a4Q]
   walk_at "r"
   exact⟨rfl,rfl⟩
 rw[iY]
 walk_at "r"
 refine FE ?_
 refine⟨M,zT M,fun w' A' κ' e' h=>?_⟩
 simp only[List.cons.injEq,DS.d.injEq,PyData.list.injEq,and_true] at h
 obtain⟨h1,h2,h3⟩:=h
 obtain⟨_,rfl⟩:=OY h1
 obtain rfl:=HR h2
 obtain rfl:=nM h3
 exact⟨rfl,rfl⟩
end
def aE:List Str:=["world", "name", "standing", "place", "count"]
theorem Q1:FnScope aE ["world", "name"] (AB IW):=⟨rfl,rfl,rfl,by decide +kernel,rfl,by decide +kernel,by decide +kernel⟩
section
local macro_rules | `(tactic| walk_at "x")=>`(tactic| first | ((with_reducible show PG _ (.Tuple ..) _);exact @Y3 _ K _ _ _ _ (3) rfl rfl (by walk_at "j") (by rfl) (by rfl)))
theorem aF {f:Addr}{fd:FuncData}(F:Fun K "thing_of" "thing_of" IW f fd):FnOk P w K mg base CX0 1 f fd ["world", "name"] (spD K 2 HU):=by
 refine fnD F Q1 fun cdv A outer s H E hr=>?_
 have hu:=hr.units
 have nd:=Q1.nd
 refine⟨_,by walk_at "b2", ?_⟩
 clear nd
 rintro xs M hl ⟨w,e,rfl,hw,he⟩
 have hse:zH (MI e)=true:=PH fun z hz=>(he z hz).1
 walk_at "r"
 refine HA ?_
 refine CM ?_
 walk_at "r"
 refine⟨fun k ρ' M'=>M'=M/\∃x y z:Option DS,ρ'=[some (.d (wD w)),some (.d (MI e)),x,y,z],⟨rfl,_,_,_,rfl⟩,?_,?_⟩
 · rintro k d ρ' M' hd ⟨rfl,x,y,z,rfl⟩
   obtain⟨t,ht,rfl⟩:=zL.mp (yN hd)
   rw[show thD t = .tuple [.str t.1,.int t.2.1,.int t.2.2] from rfl]
   walk_at "r"
   refine AY (AJ (hw t ht)) hse ?_
   rw[if_neg nft,show a0K t.1=MI (some t.1) from rfl,nJ,decide_eq_false (fun q=>(he t.1 q.symm).2 (zL.mpr ⟨t,ht,rfl⟩))]
   walk_at "r"
   exact⟨rfl,_,_,_,rfl⟩
 · rintro ρ' M' ⟨rfl,x,y,z,rfl⟩
   walk_at "r"
   exact⟨_,zT _,rfl,rfl⟩
end
def cP:List Str:=["world", "book", "hand", "deed", "made"]
theorem T7:FnScope cP ["world", "book", "hand", "deed"] (AB KW):=⟨rfl,rfl,rfl,by decide +kernel,rfl,by decide +kernel,by decide +kernel⟩
section
local macro_rules | `(tactic| walk_at "x")=>`(tactic| first | ((with_reducible show PT _ (.Compare _ [.In] ..) _);exact @VH _ _ _ _ _ _ (@rV _ _ _ _ _ hu1 (by walk_at "e") (by walk_at "e")) (by with_unfolding_all rfl)))
theorem cQ {f:Addr}{fd:FuncData}(F:Fun K "told_on" "told_on" KW f fd) (h_done:Has P w K mg base "done" 7 ["world", "deed"] OP) (h_is_deed:Has P w K mg base "is_deed" 5 ["thing"] HL) (h_is_name:Has P w K mg base "is_name" 1 ["thing"] KK) (h_made_by:Has P w K mg base "made_by" 1 ["deed"] FR) (h_makers:Has P w K mg base "makers" 2 ["book"] HS) (h_thing_of:Has P w K mg base "thing_of" 1 ["world", "name"] HU):FnOk P w K mg base CX0 8 f fd ["world", "book", "hand", "deed"] (spD K 4 K7):=by
 refine fnD F T7 fun cdv A outer s H E hr=>?_
 have hu:=hr.units
 have hu1:=zQ (a1J (show 1<=64 by decide) _) hu
 have nd:=T7.nd
 refine⟨_,by walk_at "b2", ?_⟩
 clear nd
 rintro xs M hl ⟨W,w,ls,h,D,rfl,hh,hg,hgo,hw,hnew⟩
 have hr:=hgo.2.1
 walk_at "r"
 refine AZ (Y4 hh) ?_
 rw[Y8 hh]
 walk_at "r"
 refine AZ (eG hr.1) ?_
 rw[eF hr]
 walk_at "r"
 refine AZ (D9 hr) ?_
 rw[wX]
 walk_at "r"
 refine AA (ds:=[wD w,BC ls]) (d:=wD w) rfl ?_
 walk_at "r"
 refine WO hw (fun x e=>⟨ZI hr e,(hnew x e).1⟩) ?_
 walk_at "r"
 refine RQ ?_
 rw[show(!DJ .none)=false from rfl]
 walk_at "r"
 refine rW ?_
 walk_at "r"
 refine PF hg fun p hp=>?_
 refine⟨p,mkL (dsL ls) 0,D.made,rfl,by rw[nX],zU,?_⟩
 rw[A0j hg fun x e=>(hnew x e).2]
 walk_at "r"
 refine UX hgo ?_
 refine⟨M,(zT M).put hp,fun W' w' ls' h' D' e=>?_⟩
 simp only[List.cons.injEq,DS.d.injEq,and_true] at e
 obtain⟨e1,-,-,e2⟩:=e
 obtain rfl:=S6 e1
 obtain rfl:=D4 e2
 exact⟨rfl,rfl⟩
end
def VD:List Str:=["book", "place", "hand", "deed", "start", "lines", "ahead", "behind", "gone", "left"]
def Q2:List Str:=["number", "gone"]
def Q3:List (Option Nat):=[none,some 8]
theorem aG:Q2.Nodup:=by decide +kernel
theorem VE:FnScope VD ["book", "place", "hand", "deed"] (AB K9):=⟨rfl,rfl,rfl,by decide +kernel,rfl,by decide +kernel,by decide +kernel⟩
section
local macro_rules | `(tactic| walk_at "cs")=>`(tactic| first | exact @DY _ _ Q2 Q3 (AB K9) VD (by decide +kernel) (by decide +kernel) rfl rfl)
local macro_rules | `(tactic| walk_at "x")=>`(tactic| first | ((with_reducible show PS _ (.Assign [.Tuple ..] ..) _);exact @O9 _ _ _ _ _ _ (by walk_at "e") (by walk_at "g") (by rfl) (by rfl) (by rfl)) | ((with_reducible show PG _ (.Tuple ..) _);exact @RR _ K _ _ _ _ (2) rfl rfl (by walk_at "j") (by rfl) (by rfl)) | ((with_reducible show PT _ (.Compare _ [.NotIn] ..) _);exact @CL _ _ _ _ _ _ _ _ (@N5 _ K rfl hu) (by walk_at "e") (by walk_at "e") (by with_unfolding_all rfl)))
local macro_rules | `(tactic| walk_at "y")=>`(tactic| first | ((with_reducible show PE _ (.Call (.Name (a0Q "list") _) [.Call ..] ..) _);exact @V7 _ _ _ _ _ _ _ _ hr.hd rfl n_range rfl n_list (by walk_at "a") (by rfl) (by rfl) (by rfl)))
theorem j9 {f:Addr}{fd:FuncData}(F:Fun K "put_in" "put_in" K9 f fd) (n_len:mg "len"=none) (n_list:mg "list"=none) (n_range:mg "range"=none) (h_asking_for:Has P w K mg base "asking_for" 4 ["book", "numbers", "name"] NE) (h_book_of:Has P w K mg base "book_of" 1 ["book", "numbers"] ER) (h_book_world:Has P w K mg base "book_world" 10 ["book"] DZ) (h_ended_by:Has P w K mg base "ended_by" 1 ["deed"] MB) (h_goes:Has P w K mg base "goes" 6 ["book", "struck"] (SB mZ)) (h_is_within:Has P w K mg base "is_within" 2 ["thing", "low", "high"] CO) (h_told_on:Has P w K mg base "told_on" 8 ["world", "book", "hand", "deed"] K7):FnOk P w K mg base CX0 11 f fd ["book", "place", "hand", "deed"] (spD K 4 NK):=by
 refine fnD F VE fun cdv A outer s H E hr=>?_
 have hu:=hr.units
 have nd:=VE.nd
 have n0:=aG
 refine⟨_,by walk_at "b2", ?_⟩
 clear nd n0
 rintro xs M hl ⟨w,ls,k,h,D,rfl,hP,hh⟩
 have hg:=hP.d.good
 have hfew:=hP.d.few
 have hk:=hP.le
 have lrng:(CG k ls.length).length<=40:=by rw[ND];omega
 have hwl:(NJ ls k D).length<=60:=zN (yJ _ _) (by omega)
 have hwn:∀m∈NJ ls k D,m < ls.length:=fun m hm=>(D5.mp (yL.mp hm).1).2
 walk_at "r"
 refine JU ?_
 walk_at "r"
 rw[show AL w ls = .tuple [wD w,BC ls] from rfl]
 walk_at "r"
 refine GH ?_
 rw[zX]
 walk_at "r"
 refine JR ?_
 rw[show IG (.int (k:Int)) 0 ((ls.length:Nat):Int)=true from by show(decide ((0:Int)<=(k:Int))&&decide ((k:Int)<=(ls.length:Int)))=true;rw[decide_eq_true (by omega),decide_eq_true (by omega)];rfl]
 walk_at "r"
 refine BX ?_
 rw[OI,← a7V]
 walk_at "r"
 refine ZD (ls:=ls.take k) (hP.d.row k) (by rw[a0J];omega) ?_
 walk_at "r"
 refine ZS hh hg hP.go (fun t ht=>(hP.d.fine.2 t ht).1) hP.new ?_
 walk_at "r"
 refine V8 ?_
 walk_at "r"
 refine GH ?_
 rw[zX]
 walk_at "r"
 refine⟨(k:Int),(ls.length:Int),rfl,⟨by omega,by omega,by omega,by omega⟩,by omega,?_⟩
 rw[ZH]
 walk_at "r"
 refine AZ (D9 hP.real) ?_
 rw[rO]
 walk_at "r"
 refine nL (κ:=CG k ls.length) hg (fun m hm=>(D5.mp hm).2) (by omega) (fun z hz=>SR hP.real hz) ?_
 walk_at "r"
 refine eT (ns:=NJ ls k D) hg hwl hwn fun y M' hf=>?_
 obtain⟨rfl,rfl⟩:=hf
 rw[show c6 ls (NJ ls k D)=E7 ls k D from rfl]
 walk_at "r"
 refine AD (AR 0) (by simp[Q3]) ?_
 refine AX ?_
 walk_at "r"
 refine⟨by rw[BJ];exact zQ lrng (by decide),cCh (E7 ls k D),id,?_,?_⟩
 · intro d hd M'
   obtain⟨i,hi,rfl⟩:=zL.mp hd
   walk_at "dl"
   refine⟨rfl,?_⟩
   walk_at "r"
   refine KP (ds:=AG (E7 ls k D)) rfl (CU _) ?_
   refine⟨_,rfl,rfl,rfl,fun _=>?_⟩
   walk_at "r"
   exact⟨rfl,rfl⟩
 rw[fE,show((CG k ls.length).filter fun m=>!decide (m∈E7 ls k D))=J3 ls k D from rfl]
 walk_at "r"
 have hkl:(J3 ls k D).length<=40:=zN (yJ _ _) lrng
 refine ZG (κ:=J3 ls k D) (fun m hm=>fF hm) (by omega) ?_
 walk_at "r"
 refine BX ?_
 rw[OI,← a7V]
 walk_at "r"
 refine FX (as:=(ls.take k).map AU) (bs:=[AU (h,D)]) (by rw[zX,a0J];exact zN (show _<=100 by simp;omega) (by decide)) ?_
 walk_at "r"
 refine AA (ds:=[wD w,BC (AV ls (J3 ls k D))]) (d:=BC (AV ls (J3 ls k D))) rfl ?_
 refine FX (as:=(ls.take k).map AU++[AU (h,D)]) (bs:=(AV ls (J3 ls k D)).map AU) (by rw[yY,zX,a0J,zX,SQ fun m hm=>fF hm];exact zN (show _<=100 by simp;omega) (by decide)) ?_
 walk_at "r"
 refine⟨_,zT _,fun w' ls' k' h' D' e=>?_⟩
 simp only[List.cons.injEq,DS.d.injEq,PyData.int.injEq,PyData.str.injEq,and_true] at e
 obtain⟨e1,e2,e3,e4⟩:=e
 obtain⟨e0,rfl⟩:=OY e1
 have e2:k=k':=by omega
 subst e2 e3
 obtain rfl:=D4 e4
 refine⟨?_,rfl⟩
 rw[← A0i e0]
 unfold AL G9
 rw[xI,xI]
 rfl
end
def HC:List Str:=["_law_pack", "_law_amount", "_law_letters", "_law_turn", "_law_pick", "_law_size"]
def J9:List Str:=["_law_k", "_law_letters"]
def JA:List (Option Nat):=[none,some 2]
theorem QC:J9.Nodup:=by decide +kernel
def JB:List Str:=["_law_k", "_law_letters", "_law_size"]
def F0:List (Option Nat):=[none,some 2,some 5]
theorem QD:JB.Nodup:=by decide +kernel
theorem LK:FnScope HC ["_law_pack", "_law_amount"] (AB CV):=⟨rfl,rfl,rfl,by decide +kernel,rfl,by decide +kernel,by decide +kernel⟩
section
local macro_rules | `(tactic| walk_at "cs")=>`(tactic| first | exact @DY _ _ J9 JA (AB CV) HC (by decide +kernel) (by decide +kernel) rfl rfl | exact @DY _ _ JB F0 (AB CV) HC (by decide +kernel) (by decide +kernel) rfl rfl)
local macro_rules | `(tactic| walk_at "x")=>`(tactic| first | ((with_reducible show PE _ (.BinOp _ .Mult ..) _);exact @R0 _ _ _ _ _ _ _ _ (@A0V _ K rfl) (by walk_at "e") (by walk_at "e")))
theorem TY {f:Addr}{fd:FuncData}(F:Fun K "_law_names" "_law_names" CV f fd) (n_range:mg "range"=none) (h__law_take:Has P w K mg base "_law_take" 1 ["_law_pack", "_law_size"] BE):FnOk P w K mg base CX0 2 f fd ["_law_pack", "_law_amount"] (spD K 2 DO):=by
 refine fnD F LK fun cdv A outer s H E hr=>?_
 have hu:=hr.units
 have nd:=LK.nd
 have n0:=QC
 have n1:=QD
 refine⟨_,by walk_at "b2", ?_⟩
 clear nd n0 n1
 rintro xs M hl ⟨p,n,o,rfl,m,ho,hn0,hn1⟩
 obtain⟨N,rfl⟩:∃N:Nat,n=(N:Int):=⟨n.toNat,by omega⟩
 have hlz:((a0Q "abcdefghijklmnopqrstuvwxyz"):Str).length<=sizeLine:=by rw[JS];decide
 walk_at "r"
 refine BF m ho (by decide) (by decide) fun v1 o1 hv0 hv1 ho1=>?_
 obtain⟨t,rfl⟩:∃t:Nat,v1=(t:Int):=⟨v1.toNat,by omega⟩
 walk_at "r"
 refine MV hlz ?_
 walk_at "r"
 refine MV hlz ?_
 refine RG (zN (Nat.add_le_add (UL _ _ _ (Nat.le_of_eq JS)) (UL _ _ _ (Nat.le_of_eq JS))) (by decide)) ?_
 have hRl:bG (a1X (a0Q "abcdefghijklmnopqrstuvwxyz") (some (t:Int)) none++a1X (a0Q "abcdefghijklmnopqrstuvwxyz") none (some (t:Int))):=by
   refine RP (fun c hc=>?_) (fun c hc=>?_)
   · rw[IJ] at hc;exact RK c (b5Q hc)
   · exact RK c (gK hc)
 have hRn:(a1X (a0Q "abcdefghijklmnopqrstuvwxyz") (some (t:Int)) none++a1X (a0Q "abcdefghijklmnopqrstuvwxyz") none (some (t:Int))).cps.toList.length=26:=by
   rw[AT,yY,IJ,IH,a5W,a0J,← OH,l3];exact wH (xR (Int.ofNat_lt.mp hv1))
 have hRd:(a1X (a0Q "abcdefghijklmnopqrstuvwxyz") (some (t:Int)) none++a1X (a0Q "abcdefghijklmnopqrstuvwxyz") none (some (t:Int))).cps.toList.Nodup:=by
   rw[AT,IJ,IH];exact hW t
 have hRrun:Run (a1X (a0Q "abcdefghijklmnopqrstuvwxyz") (some (t:Int)) none++a1X (a0Q "abcdefghijklmnopqrstuvwxyz") none (some (t:Int))).cps.toList:=by
   rw[AT,IJ,IH];exact wM (lT t (by omega))
 revert hRl hRn hRd hRrun
 generalize a1X (a0Q "abcdefghijklmnopqrstuvwxyz") (some (t:Int)) none++a1X (a0Q "abcdefghijklmnopqrstuvwxyz") none (some (t:Int))=R
 intro hRl hRn hRd hRrun
 have hRz:R.length<=sizeLine:=by
   have:R.length=R.cps.toList.length:=by simp[Str.length]
   rw[this,hRn];decide
 have hRat:∀k:Nat,k < 26->∃c,atI R.cps.toList (k:Int)=some c/\GI c=true:=fun k hk=>by
   have hk':k < R.cps.toList.length:=by rw[hRn];exact hk
   exact⟨R.cps.toList[k],AC (zV hk'),hRl _ (b1K hk')⟩
 walk_at "r"
 refine BF zU ho1 (by decide) (by decide) fun v2 o2 _ _ ho2=>?_
 rw[yI]
 walk_at "r"
 refine BF zU ho2 (by decide) (by decide) fun v3 o3 h30 h31 ho3=>?_
 rw[yI]
 obtain⟨s3,rfl⟩:∃s3:Nat,v3=(s3:Int):=⟨v3.toNat,by omega⟩
 have hmid:bG (a1X R (some 3) (some (3+(s3:Int))))/\(a1X R (some 3) (some (3+(s3:Int)))).cps.toList.length<=7/\Run (a1X R (some 3) (some (3+(s3:Int)))).cps.toList:=by
   have e:(a1X R (some 3) (some (3+(s3:Int)))).cps.toList=(R.cps.toList.take (3+s3)).drop 3:=gT R 3 (3+s3)
   refine⟨fun c hc=>?_,?_,?_⟩
   · rw[e] at hc;exact hRl c (a8K (b5Q hc))
   · rw[e,a5W,a0J];exact wI (Nat.le_of_lt_succ (Int.ofNat_lt.mp h31))
   · rw[e];exact(hRrun.take _).drop _
 have hids:(CC 0 N).length=N:=by simp[CC]
 have hN:N<=26:=Int.ofNat_le.mp hn1
 have hsz:(CC 0 N).length < sizeLine:=by rw[hids];exact zQ hN (by decide)
 have fin:∀(g:PyData->PyData),(∀k:Nat,k < N->∃z,g (.int k) = .str z/\AH z/\z∉Q7)->(∀i j:Nat,i < N->j < N->g (.int i)=g (.int j)->i=j)->∃ys:List Str,((CC 0 N).filter fun _=>true).map g=ys.map .str/\ys.length=N/\(∀z∈ys,AH z/\z∉Q7)/\ys.Nodup:=fun g hg hi=>by
   rw[flt]
   refine⟨(a1Q N).map fun(k:Nat)=>RL (g (.int (k:Int))),?_,by simp,?_,?_⟩
   · unfold CC
     rw[zD,zD]
     apply yM
     intro k hk
     obtain⟨z,e,_⟩:=hg k (List.mem_range.mp hk)
     show g (.int (0+(k:Int))) = .str (RL (g (.int k)))
     rw[Int.zero_add,e];rfl
   · intro z hz
     obtain⟨k,hk,rfl⟩:=zL.mp hz
     obtain⟨z,e,h⟩:=hg k (List.mem_range.mp hk)
     rw[e];exact h
   · refine nodup_range fun i j h1 h2 e=>hi i j h1 h2 ?_
     obtain⟨z1,e1,_⟩:=hg i h1
     obtain⟨z2,e2,_⟩:=hg j h2
     rw[e1,e2] at e ⊢
     exact congrArg a0K e
 walk_at "r"
 refine AY rfl rfl ?_
 rw[if_neg nft]
 walk_at "r"
 refine jY (fun h=>?_) (fun h=>?_)
 · walk_at "r"
   refine AD (AR 0) (by simp[JA]) ?_
   refine MT ?_
   walk_at "r"
   refine⟨by omega,by omega,?_⟩
   rw[a4Q]
   have hel:∀k:Nat,k < N->∃c,atI R.cps.toList ((k:Int)/8)=some c/\GI c=true:=fun k hk=>hRat (k/8) (bF hk hN)
   refine⟨hsz,fun _=>true,nmA R,?_,?_⟩
   · intro d hd M'
     obtain⟨k,hk,rfl⟩:=zL.mp hd
     obtain⟨c,e1,e2⟩:=hel k (List.mem_range.mp hk)
     rw[Int.zero_add]
     walk_at "dl"
     refine⟨rfl,?_⟩
     walk_at "dl"
     refine⟨rfl,rfl,fun _=>?_⟩
     walk_at "r"
     refine VY hRz e1 ?_
     walk_at "r"
     refine wG (M8 _).1 (M8 _).2.1 (by show 1<=1000;decide) ?_
     exact⟨by rw[W9 e1],rfl⟩
   · have iA:∀i j:Nat,i < N->j < N->(nmA R) (.int i)=(nmA R) (.int j)->i=j:=fun i j h1 h2 e=>by
       obtain⟨c1,q1,_⟩:=hel i h1
       obtain⟨c2,q2,_⟩:=hel j h2
       rw[W9 q1,W9 q2] at e
       have e':Q6 ⟨#[c1]⟩ (1+(i:Int) % 8)=Q6 ⟨#[c2]⟩ (1+(j:Int) % 8):=by injection e
       obtain⟨hcc,hmn⟩:=qX (M8 _).1 (M8 _).1 e'
       subst hcc
       have hq:=S4 (i:=i/8) (j:=j/8) hRd q1 q2 (by rw[hRn];exact bF h1 hN) (by rw[hRn];exact bF h2 hN)
       exact A0W hmn hq
     have hA:∀k:Nat,k < N->∃z,(nmA R) (.int k) = .str z/\AH z/\z∉Q7:=fun k hk=>by
       obtain⟨c,q1,q2⟩:=hel k hk
       have hz:=W6 (c:=c) (n:=1+(k:Int) % 8) (M8 k).1
       refine⟨Q6 ⟨#[c]⟩ (1+(k:Int) % 8),W9 q1,?_,qU hz⟩
       refine RO (fun d hd=>?_) ?_ ?_
       · rw[hz] at hd;rw[b9V hd];exact q2
       · rw[hz,b0J];exact(M8 k).2.2.1
       · rw[hz,b0J];exact(M8 k).2.2.2
     obtain⟨ys,e1,e2,e3,e4⟩:=fin (nmA R) hA iA
     rw[e1]
     refine⟨_,zT _,fun p' n' e=>?_⟩
     cases e
     exact⟨ys,o3,rfl,by rw[e2],fun z hz=>(e3 z hz).1,fun z hz=>(e3 z hz).2,e4,ho3,rfl⟩
 · walk_at "r"
   refine AY rfl rfl ?_
   rw[if_neg nft]
   walk_at "r"
   have hel:∀k:Nat,k < N->∃c,atI R.cps.toList (k:Int)=some c/\GI c=true:=fun k hk=>hRat k (zP hk hN)
   have hszs:∀c:Nat,(⟨#[c]⟩:Str).length+(a1X R (some 3) (some (3+(s3:Int)))).length<=sizeLine:=fun c=>by
     have:(a1X R (some 3) (some (3+(s3:Int)))).length=(a1X R (some 3) (some (3+(s3:Int)))).cps.toList.length:=by simp[Str.length]
     rw[this]
     exact zN (Nat.add_le_add (zR 1) hmid.2.1) (by decide)
   refine jY (fun h2=>?_) (fun h2=>?_)
   · walk_at "r"
     refine AD (AR 0) (by simp[F0]) ?_
     refine MT ?_
     walk_at "r"
     refine⟨by omega,by omega,?_⟩
     rw[a4Q]
     refine⟨hsz,fun _=>true,nmB R (a1X R (some 3) (some (3+(s3:Int)))),?_,?_⟩
     · intro d hd M'
       obtain⟨k,hk,rfl⟩:=zL.mp hd
       obtain⟨c,e1,e2⟩:=hel k (List.mem_range.mp hk)
       rw[Int.zero_add]
       walk_at "dl"
       refine⟨rfl,?_⟩
       walk_at "dl"
       refine⟨rfl,rfl,fun _=>?_⟩
       walk_at "r"
       refine VY hRz e1 ?_
       walk_at "r"
       refine MV hRz ?_
       refine RG (hszs c) ?_
       exact⟨by rw[WA e1],rfl⟩
     · have iB:∀i j:Nat,i < N->j < N->(nmB R (a1X R (some 3) (some (3+(s3:Int))))) (.int i)=(nmB R (a1X R (some 3) (some (3+(s3:Int))))) (.int j)->i=j:=fun i j h1 h2 e=>by
         obtain⟨c1,q1,_⟩:=hel i h1
         obtain⟨c2,q2,_⟩:=hel j h2
         rw[WA q1,WA q2] at e
         have e':(⟨#[c1]⟩:Str)++a1X R (some 3) (some (3+(s3:Int)))=⟨#[c2]⟩++a1X R (some 3) (some (3+(s3:Int))):=by injection e
         have hc:=lU e'
         subst hc
         exact S4 hRd q1 q2 (by rw[hRn];exact zP h1 hN) (by rw[hRn];exact zP h2 hN)
       have hB:∀k:Nat,k < N->∃z,(nmB R (a1X R (some 3) (some (3+(s3:Int))))) (.int k) = .str z/\AH z/\z∉Q7:=fun k hk=>by
         obtain⟨c,q1,q2⟩:=hel k hk
         refine⟨_,WA q1,?_,qV (c:=c) (by rw[AT];rfl) hmid.2.2⟩
         refine RO (RP (YD q2) hmid.1) ?_ ?_
         · rw[AT,yY];exact a6X 1 _
         · rw[AT,yY];exact a1J hmid.2.1 1
       obtain⟨ys,e1,e2,e3,e4⟩:=fin (nmB R (a1X R (some 3) (some (3+(s3:Int))))) hB iB
       rw[e1]
       refine⟨_,zT _,fun p' n' e=>?_⟩
       cases e
       exact⟨ys,o3,rfl,by rw[e2],fun z hz=>(e3 z hz).1,fun z hz=>(e3 z hz).2,e4,ho3,rfl⟩
   · walk_at "r"
     refine AD (AR 0) (by simp[F0]) ?_
     refine MT ?_
     walk_at "r"
     refine⟨by omega,by omega,?_⟩
     rw[a4Q]
     refine⟨hsz,fun _=>true,nmC R (a1X R (some 3) (some (3+(s3:Int)))),?_,?_⟩
     · intro d hd M'
       obtain⟨k,hk,rfl⟩:=zL.mp hd
       obtain⟨c,e1,e2⟩:=hel k (List.mem_range.mp hk)
       rw[Int.zero_add]
       walk_at "dl"
       refine⟨rfl,?_⟩
       walk_at "dl"
       refine⟨rfl,rfl,fun _=>?_⟩
       walk_at "r"
       refine MV hRz ?_
       walk_at "r"
       refine VY hRz e1 ?_
       refine RG (by rw[Nat.add_comm];exact hszs c) ?_
       exact⟨by rw[WB e1],rfl⟩
     · have iC:∀i j:Nat,i < N->j < N->(nmC R (a1X R (some 3) (some (3+(s3:Int))))) (.int i)=(nmC R (a1X R (some 3) (some (3+(s3:Int))))) (.int j)->i=j:=fun i j h1 h2 e=>by
         obtain⟨c1,q1,_⟩:=hel i h1
         obtain⟨c2,q2,_⟩:=hel j h2
         rw[WB q1,WB q2] at e
         have e':a1X R (some 3) (some (3+(s3:Int)))++(⟨#[c1]⟩:Str)=a1X R (some 3) (some (3+(s3:Int)))++⟨#[c2]⟩:=by injection e
         have hc:=lV e'
         subst hc
         exact S4 hRd q1 q2 (by rw[hRn];exact zP h1 hN) (by rw[hRn];exact zP h2 hN)
       have hC:∀k:Nat,k < N->∃z,(nmC R (a1X R (some 3) (some (3+(s3:Int))))) (.int k) = .str z/\AH z/\z∉Q7:=fun k hk=>by
         obtain⟨c,q1,q2⟩:=hel k hk
         refine⟨_,WB q1,?_,qW (c:=c) (by rw[AT]) hmid.2.2⟩
         refine RO (RP hmid.1 (YD q2)) ?_ ?_
         · rw[AT,yY];exact Nat.le_add_left 1 _
         · rw[AT,yY];exact b1X hmid.2.1 1
       obtain⟨ys,e1,e2,e3,e4⟩:=fin (nmC R (a1X R (some 3) (some (3+(s3:Int))))) hC iC
       rw[e1]
       refine⟨_,zT _,fun p' n' e=>?_⟩
       cases e
       exact⟨ys,o3,rfl,by rw[e2],fun z hz=>(e3 z hz).1,fun z hz=>(e3 z hz).2,e4,ho3,rfl⟩
end
def TZ:List Str:=["_law_cell"]
theorem LL:FnScope TZ ["_law_cell"] (AB FM):=⟨rfl,rfl,rfl,by decide +kernel,rfl,by decide +kernel,by decide +kernel⟩
section
local macro_rules | `(tactic| walk_at "x")=>`(tactic| first | ((with_reducible show PE _ (.BinOp _ .Mult ..) _);exact @R0 _ _ _ _ _ _ _ _ (@A0V _ K rfl) (by walk_at "e") (by walk_at "e")))
theorem U0 {f:Addr}{fd:FuncData}(F:Fun K "_law_mixed" "_law_mixed" FM f fd):FnOk P w K mg base CX0 1 f fd ["_law_cell"] (spD K 1 C6):=by
 refine fnD F LL fun cdv A outer s H E hr=>?_
 have hu:=hr.units
 have nd:=LL.nd
 refine⟨_,by walk_at "b1", ?_⟩
 clear nd
 rintro xs M hl ⟨c,rfl,hc⟩
 walk_at "r"
 refine l7 (rF hc) ?_
 walk_at "r"
 exact⟨M,zT M,rfl,_,rfl⟩
end
def X9:List Str:=["_law_pack", "_law_size", "_law_digit"]
theorem NZ:FnScope X9 ["_law_pack", "_law_size"] (AB GS):=⟨rfl,rfl,rfl,by decide +kernel,rfl,by decide +kernel,by decide +kernel⟩
section
local macro_rules | `(tactic| walk_at "x")=>`(tactic| first | ((with_reducible show PS _ (.Assign [.Tuple ..] ..) _);exact @O9 _ _ _ _ _ _ (by walk_at "e") (by walk_at "g") (by rfl) (by rfl) (by rfl)) | ((with_reducible show PG _ (.Tuple ..) _);exact @RR _ K _ _ _ _ (2) rfl rfl (by walk_at "j") (by rfl) (by rfl)) | ((with_reducible show PG _ (.Subscript ..) _);exact @uC _ _ _ _ _ _ _ (by walk_at "e") (by walk_at "e") (@jP _) (by intro _;rfl)))
theorem XA {f:Addr}{fd:FuncData}(F:Fun K "_law_take" "_law_take" GS f fd) (n_divmod:mg "divmod"=none):FnOk P w K mg base CX0 1 f fd ["_law_pack", "_law_size"] (spD K 2 BE):=by
 refine fnD F NZ fun cdv A outer s H E hr=>?_
 have hu:=hr.units
 have nd:=NZ.nd
 refine⟨_,by walk_at "b2", ?_⟩
 clear nd
 rintro xs M hl ⟨p,size,o,rfl,m,⟨v,rfl⟩,h0,h1⟩
 walk_at "dl"
 refine JU ?_
 walk_at "r"
 refine gS h0 h1 ?_
 walk_at "r"
 refine⟨_,zT _,fun p' size' e=>?_⟩
 cases e
 exact⟨_,_,rfl,Int.emod_nonneg _ (by omega),Int.emod_lt_of_pos _ h0,⟨_,rfl⟩,rfl⟩
end
def O0:List Str:=["_law_pack", "_law_some", "_law_spare", "_law_kind", "_law_place", "_law_number", "_law_one", "_law_others"]
def KB:List Str:=["_law_name", "_law_one"]
def KC:List (Option Nat):=[none,some 6]
theorem T8:KB.Nodup:=by decide +kernel
theorem O1:FnScope O0 ["_law_pack", "_law_some", "_law_spare"] (AB ET):=⟨rfl,rfl,rfl,by decide +kernel,rfl,by decide +kernel,by decide +kernel⟩
section
local macro_rules | `(tactic| walk_at "cs")=>`(tactic| first | exact @DY _ _ KB KC (AB ET) O0 (by decide +kernel) (by decide +kernel) rfl rfl)
local macro_rules | `(tactic| walk_at "x")=>`(tactic| first | ((with_reducible show PT _ (.Compare _ [.In] ..) _);exact @CL _ _ _ _ _ _ _ _ (@kIn _ K rfl) (by walk_at "e") (by walk_at "e") (by with_unfolding_all rfl)))
theorem XB {f:Addr}{fd:FuncData}(F:Fun K "_law_deed" "_law_deed" ET f fd) (n_int:mg "int"=none) (n_len:mg "len"=none) (h__law_take:Has P w K mg base "_law_take" 1 ["_law_pack", "_law_size"] BE):FnOk P w K mg base CX0 2 f fd ["_law_pack", "_law_some", "_law_spare"] (spD K 3 DC):=by
 refine fnD F O1 fun cdv A outer s H E hr=>?_
 have hu:=hr.units
 have nd:=O1.nd
 have n0:=T8
 refine⟨_,by walk_at "b2", ?_⟩
 clear nd n0
 rintro xs M hl ⟨p,o,so,sp,rfl,m,ho,hno,hne0⟩
 have nd2:∀{z:Str},z∈so->z∉sp:=fun {z} h1 h2=>(List.nodup_append.mp hno.2.1).2.2 z h1 z h2 rfl
 walk_at "r"
 refine D0 ?_
 walk_at "r"
 refine BF m ho (by decide) (by decide) fun v1 o1 a0 a1 ho1=>?_
 obtain⟨kd,ekd,hkd⟩:=QS (ys:=IO) a0 a1
 refine D6 (d:=.str kd) ekd ?_
 walk_at "r"
 refine BF zU ho1 (by decide) (by decide) fun pl o2 p0 p1 ho2=>?_
 rw[yI]
 walk_at "r"
 refine BF zU ho2 (by decide) (by decide) fun v3 o3 c0 c1 ho3=>?_
 rw[yI]
 walk_at "wks"
 refine RH (fun ρ1 M1=>∃(kd:Str),kd∈IO/\(kd=a0Q "put" ∨ kd=a0Q "name" ∨ kd=a0Q "split" -> sp≠[])/\(kd≠a0Q "put" -> so≠[])/\M1=M.put p o3/\ρ1=[some (.loc p),some (.d (AQ so)),some (.d (AQ sp)),some (.d (.str kd)),some (.d (.int pl)),some (.d (.int (v3 - 20))),none,none]) ?_ ?_
 · have hs1:zH (AQ so)=true:=C9 fun z hz=>hno.1 z (by simp[hz])
   have hs2:zH (AQ sp)=true:=C9 fun z hz=>hno.1 z (by simp[hz])
   have fin:∀b:Bool,sp.isEmpty=b->∃k2:Str,atI [a0K (a0Q "put"),.str (a0Q "move")] (if b then 1 else 0)=some (.str k2)/\k2∈IO/\((b=false/\k2=a0Q "put")∨(b=true/\k2=a0Q "move")):=fun b _=>by
     cases b with
     | true=>exact⟨"move", rfl,by simp[IO],.inr ⟨rfl,rfl⟩⟩
     | false=>exact⟨"put", rfl,by simp[IO],.inl ⟨rfl,rfl⟩⟩
   walk_at "wkd"
   refine AY hs1 rfl ?_
   rw[if_neg nft,BQ]
   cases hso:so.isEmpty with
   | true=>
     have so0:so=[]:=List.isEmpty_iff.mp hso
     have sp0:sp≠[]:=hne0.resolve_left fun q=>q so0
     have spe:sp.isEmpty=false:=by cases sp with | nil=>exact absurd rfl sp0 | cons _ _=>rfl
     walk_at "r"
     refine D0 ?_
     walk_at "wkd"
     refine AY hs2 rfl ?_
     rw[if_neg nft,BQ,spe]
     walk_at "r"
     refine D6 (d:=.str (a0Q "put")) rfl ?_
     exact⟨"put", by simp[IO],fun _=>sp0,fun q=>absurd rfl q,rfl,rfl⟩
   | false=>
     have so1:so≠[]:=fun q=>by rw[q] at hso;cases hso
     walk_at "wkd"
     refine AY hs2 rfl ?_
     rw[if_neg nft,BQ]
     cases hsp:sp.isEmpty with
     | false=>
       have sp1:sp≠[]:=fun q=>by rw[q] at hsp;cases hsp
       walk_at "r"
       exact⟨kd,hkd,fun _=>sp1,fun _=>so1,rfl,rfl⟩
     | true=>
       walk_at "r"
       refine D0 ?_
       walk_at "r"
       refine IE (ys:=["put", "name", "split"]) ?_
       cases hin:decide (kd∈[a0Q "put", "name", "split"]) with
       | false=>
         walk_at "r"
         refine⟨kd,hkd,fun q=>?_,fun _=>so1,rfl,rfl⟩
         have:=of_decide_eq_false hin
         simp only[yX,xX,or_false] at this
         exact absurd q this
       | true=>
         walk_at "r"
         refine D0 ?_
         walk_at "wkd"
         refine AY hs2 rfl ?_
         rw[if_neg nft,BQ,hsp]
         walk_at "r"
         refine D6 (d:=.str (a0Q "move")) rfl ?_
         exact⟨"move", by simp[IO],fun q=>by rcases q with q | q | q <;> exact absurd q (by decide +kernel),fun _=>so1,rfl,rfl⟩
 · rintro ρ1 M1 ⟨kd,hkd,k1,k2,rfl,rfl⟩
   generalize v3 - 20=nu
   walk_at "r"
   refine AY (HM hkd) (by decide +kernel) ?_
   rw[if_neg nft,C7]
   cases e1:(kd==a0Q "put") with
   | true=>
     have ek:kd=a0Q "put" := eq_of_beq e1
     walk_at "r"
     obtain⟨s0,sr,rfl⟩:∃s0 sr,sp=s0::sr:=by
       cases sp with
       | nil=>exact absurd rfl (k1 (.inl ek))
       | cons a r=>exact⟨a,r,rfl⟩
     refine D6 (ds:=(s0::sr).map .str) (AC (j:=0) rfl) ?_
     walk_at "r"
     refine⟨_,zT _,fun p' so' sp' e=>?_⟩
     obtain⟨rfl,rfl,rfl⟩:=GL e
     exact⟨.put s0 pl nu,_,rfl,⟨fun z hz=>by simp[Deed.names] at hz;subst hz;exact hno.1 _ (by simp),trivial,⟨p0,by omega⟩⟩,DU fun n hn=>by simp[Deed.names] at hn;subst hn;simp[Deed.made];exact fun q=>nd2 q (by simp),fun n e=>by simp[Deed.made] at e;subst e;rfl,ho3,rfl⟩
   | false=>
     have kne:kd≠a0Q "put" := fun q=>by rw[q] at e1;simp at e1
     have hso:=k2 kne
     have hsl:0 < so.length:=List.length_pos_iff.mpr hso
     have hs26:so.length<=26:=by have:=hno.2.2;rw[yY] at this;omega
     walk_at "r"
     refine KJ ?_
     rw[zX]
     walk_at "r"
     refine BF zU ho3 (by omega) (by omega) fun v4 o4 d0 d1 ho4=>?_
     rw[yI]
     obtain⟨y1,ey1,my1⟩:=QS (ys:=so) d0 d1
     have hy1:AH y1:=hno.1 y1 (by simp[my1])
     refine D6 ey1 ?_
     walk_at "r"
     refine AD (AR 0) (by simp[KC]) ?_
     refine AX ?_
     walk_at "r"
     refine⟨by rw[zX];exact zQ hs26 (by decide),fun d=>!a0X d (.str y1),id,?_,?_⟩
     · intro d hd M'
       obtain⟨z,hz,rfl⟩:=zL.mp hd
       walk_at "r"
       refine⟨rfl,?_⟩
       walk_at "r"
       refine AY (AJ (hno.1 z (by simp[hz]))) (AJ hy1) ?_
       rw[if_pos rfl]
       walk_at "r"
       refine⟨rfl,rfl,fun _=>?_⟩
       walk_at "r"
       exact⟨rfl,rfl⟩
     rw[EC]
     walk_at "r"
     refine AY (HM hkd) (by decide +kernel) ?_
     rw[if_neg nft,C7]
     cases e2:(kd==a0Q "move") with
     | true=>
       have ek:kd=a0Q "move" := eq_of_beq e2
       walk_at "r"
       refine⟨_,zT _,fun p' so' sp' e=>?_⟩
       obtain⟨rfl,rfl,rfl⟩:=GL e
       exact⟨.move y1 pl,_,rfl,⟨fun z hz=>by simp[Deed.names] at hz;subst hz;exact hy1,trivial,⟨p0,by omega⟩⟩,DU fun n hn=>by simp[Deed.names] at hn;subst hn;simp[Deed.made,my1],fun n e=>by simp[Deed.made] at e,ho4,rfl⟩
     | false=>
       walk_at "r"
       refine AY (HM hkd) (by decide +kernel) ?_
       rw[if_neg nft,C7]
       cases e3:(kd==a0Q "take") with
       | true=>
         have ek:kd=a0Q "take" := eq_of_beq e3
         walk_at "r"
         refine⟨_,zT _,fun p' so' sp' e=>?_⟩
         obtain⟨rfl,rfl,rfl⟩:=GL e
         exact⟨.take y1,_,rfl,⟨fun z hz=>by simp[Deed.names] at hz;subst hz;exact hy1,trivial,trivial⟩,DU fun n hn=>by simp[Deed.names] at hn;subst hn;simp[Deed.made,my1],fun n e=>by simp[Deed.made] at e,ho4,rfl⟩
       | false=>
         walk_at "r"
         refine AY (HM hkd) (by decide +kernel) ?_
         rw[if_neg nft,C7]
         cases e4:(kd==a0Q "name") with
         | true=>
           have ek:kd=a0Q "name" := eq_of_beq e4
           walk_at "r"
           obtain⟨s0,sr,rfl⟩:∃s0 sr,sp=s0::sr:=by
             cases sp with
             | nil=>exact absurd rfl (k1 (.inr (.inl ek)))
             | cons a r=>exact⟨a,r,rfl⟩
           have hne:y1≠s0:=fun q=>nd2 my1 (by rw[q];simp)
           have hs0:AH s0:=hno.1 s0 (by simp)
           refine D6 (ds:=(s0::sr).map .str) (AC (j:=0) rfl) ?_
           walk_at "r"
           refine⟨_,zT _,fun p' so' sp' e=>?_⟩
           obtain⟨rfl,rfl,rfl⟩:=GL e
           exact⟨.name y1 s0,_,rfl,⟨fun z hz=>by simp[Deed.names] at hz;rcases hz with rfl | rfl;exact hy1;exact hs0,hne,trivial⟩,DU fun n hn=>by simp[Deed.names] at hn;rcases hn with rfl | rfl;(simp[Deed.made,my1];exact fun q=>hne q.symm);(simp[Deed.made];exact fun q=>nd2 q (by simp)),fun n e=>by simp[Deed.made] at e;subst e;rfl,ho4,rfl⟩
         | false=>
           walk_at "r"
           refine AY (HM hkd) (by decide +kernel) ?_
           rw[if_neg nft,C7]
           cases e5:(kd==a0Q "split") with
           | true=>
             have ek:kd=a0Q "split" := eq_of_beq e5
             walk_at "r"
             obtain⟨s0,sr,rfl⟩:∃s0 sr,sp=s0::sr:=by
               cases sp with
               | nil=>exact absurd rfl (k1 (.inr (.inr ek)))
               | cons a r=>exact⟨a,r,rfl⟩
             have hne:y1≠s0:=fun q=>nd2 my1 (by rw[q];simp)
             have hs0:AH s0:=hno.1 s0 (by simp)
             refine D6 (ds:=(s0::sr).map .str) (AC (j:=0) rfl) ?_
             walk_at "r"
             refine⟨_,zT _,fun p' so' sp' e=>?_⟩
             obtain⟨rfl,rfl,rfl⟩:=GL e
             exact⟨.split y1 s0 pl nu,_,rfl,⟨fun z hz=>by simp[Deed.names] at hz;rcases hz with rfl | rfl;exact hy1;exact hs0,hne,⟨p0,by omega⟩⟩,DU fun n hn=>by simp[Deed.names] at hn;rcases hn with rfl | rfl;(simp[Deed.made,my1];exact fun q=>hne q.symm);(simp[Deed.made];exact fun q=>nd2 q (by simp)),fun n e=>by simp[Deed.made] at e;subst e;rfl,ho4,rfl⟩
           | false=>
             walk_at "r"
             refine AY (HM hkd) (by decide +kernel) ?_
             rw[if_neg nft,C7]
             cases e6:(kd==a0Q "join") with
             | false=>
               walk_at "r"
               refine⟨_,zT _,fun p' so' sp' e=>?_⟩
               obtain⟨rfl,rfl,rfl⟩:=GL e
               exact⟨.count y1 nu,_,rfl,⟨fun z hz=>by simp[Deed.names] at hz;subst hz;exact hy1,trivial,trivial⟩,DU fun n hn=>by simp[Deed.names] at hn;subst hn;simp[Deed.made,my1],fun n e=>by simp[Deed.made] at e,ho4,rfl⟩
             | true=>
               walk_at "wkd"
               have hfn:∀z∈so.filter (fun z=>decide (z≠y1)),AH z:=fun z hz=>hno.1 z (by simp[(yL.mp hz).1])
               refine AY (C9 hfn) rfl ?_
               rw[if_pos rfl,show a0X (.list ((so.filter fun z=>decide (z≠y1)).map .str)) (.list [])=(so.filter fun z=>decide (z≠y1)).isEmpty from BQ _]
               cases ho:(so.filter fun z=>decide (z≠y1)).isEmpty with
               | true=>
                 walk_at "r"
                 refine⟨_,zT _,fun p' so' sp' e=>?_⟩
                 obtain⟨rfl,rfl,rfl⟩:=GL e
                 exact⟨.count y1 nu,_,rfl,⟨fun z hz=>by simp[Deed.names] at hz;subst hz;exact hy1,trivial,trivial⟩,DU fun n hn=>by simp[Deed.names] at hn;subst hn;simp[Deed.made,my1],fun n e=>by simp[Deed.made] at e,ho4,rfl⟩
               | false=>
                 have hol:0 < (so.filter fun z=>decide (z≠y1)).length:=by
                   rw[List.length_pos_iff];intro q;rw[q] at ho;cases ho
                 have hol2:(so.filter fun z=>decide (z≠y1)).length<=26:=zN (yJ _ _) hs26
                 walk_at "r"
                 refine KJ ?_
                 rw[zX]
                 walk_at "r"
                 refine BF zU ho4 (by omega) (by omega) fun v5 o5 f0 f1 ho5=>?_
                 rw[yI]
                 obtain⟨y2,ey2,my2⟩:=QS (ys:=so.filter fun z=>decide (z≠y1)) f0 f1
                 have hy2:=hfn y2 my2
                 have hne:y1≠y2:=fun e=>by have:=(yL.mp my2).2;simp at this;exact this e.symm
                 refine D6 ey2 ?_
                 walk_at "r"
                 refine⟨_,zT _,fun p' so' sp' e=>?_⟩
                 obtain⟨rfl,rfl,rfl⟩:=GL e
                 exact⟨.join y1 y2,_,rfl,⟨fun z hz=>by simp[Deed.names] at hz;rcases hz with rfl | rfl;exact hy1;exact hy2,hne,trivial⟩,DU fun n hn=>by simp[Deed.names] at hn;rcases hn with rfl | rfl;(simp[Deed.made,my1]);(simp[Deed.made,(yL.mp my2).1]),fun n e=>by simp[Deed.made] at e,ho5,rfl⟩
end
def HD:List Str:=["_law_deed_here", "_law_some", "_law_spare", "_law_stay", "_law_lost"]
def JC:List Str:=["_law_name", "_law_deed_here"]
def F3:List (Option Nat):=[none,some 0]
theorem QE:JC.Nodup:=by decide +kernel
def JD:List Str:=["_law_name", "_law_lost"]
def CH:List (Option Nat):=[none,some 4]
theorem QF:JD.Nodup:=by decide +kernel
theorem LM:FnScope HD ["_law_deed_here", "_law_some", "_law_spare"] (AB CW):=⟨rfl,rfl,rfl,by decide +kernel,rfl,by decide +kernel,by decide +kernel⟩
section
local macro_rules | `(tactic| walk_at "cs")=>`(tactic| first | exact @DY _ _ JC F3 (AB CW) HD (by decide +kernel) (by decide +kernel) rfl rfl | exact @DY _ _ JD CH (AB CW) HD (by decide +kernel) (by decide +kernel) rfl rfl)
local macro_rules | `(tactic| walk_at "x")=>`(tactic| first | ((with_reducible show PT _ (.Compare _ [.In] ..) _);exact @CL _ _ _ _ _ _ _ _ (@kIn _ K rfl) (by walk_at "e") (by walk_at "e") (by with_unfolding_all rfl)) | ((with_reducible show PE _ (.Call (.Attribute _ (a0Q "get") _) ..) _);exact @MR _ _ _ _ _ _ _ _ _ hu1 (by walk_at "e") (by walk_at "e") (by walk_at "e") (@L2.M2.mk _ _ _ _ _ _ _ rfl rfl rfl rfl)) | ((with_reducible show PE _ (.Dict ..) _);exact @QN _ _ _ _ _ (@D3 _ _ _ _ _ _ _ _ _ (by walk_at "e") (by walk_at "e") (@D3 _ _ _ _ _ _ _ _ _ (by walk_at "e") (by walk_at "e") (@QM _ _))) rfl rfl (by simp) (by decide)))
theorem U1 {f:Addr}{fd:FuncData}(F:Fun K "_law_after" "_law_after" CW f fd):FnOk P w K mg base CX0 1 f fd ["_law_deed_here", "_law_some", "_law_spare"] (spD K 3 DW):=by
 refine fnD F LM fun cdv A outer s H E hr=>?_
 have hu:=hr.units
 have hu1:=zQ (a1J (show 1<=64 by decide) _) hu
 have nd:=LM.nd
 have n0:=QE
 have n1:=QF
 refine⟨_,by walk_at "b2", ?_⟩
 clear nd n0 n1
 rintro xs M hl ⟨D,so,sp,rfl,hr,hno,ha⟩
 have hs26:so.length<=26:=by have:=hno.2.2;rw[yY] at this;omega
 walk_at "r"
 cases D with
 | put x pl k=>
   have hx:AH x:=hr.1 x (by simp[Deed.names])
   rw[show Deed.d (Deed.put x pl k) = .tuple [.str (a0Q "put"),.str x,.int pl,.int k] from rfl]
   refine AA (d:=.str (a0Q "put")) (AC (j:=0) rfl) ?_
   walk_at "r"
   refine AF (t:=true) (by decide +kernel) ?_
   walk_at "r"
   refine D0 ?_
   walk_at "r"
   refine AA (d:=.str x) (AC (j:=1) rfl) ?_
   walk_at "r"
   refine DK (by rw[zX];exact zN (b1X hs26 1) (by decide)) ?_
   walk_at "r"
   refine CJ ?_
   rw[show EJ (sp.map a0K) (some 1) none=(sp.drop 1).map .str from(JT _ 1).trans (by rw[b5W])]
   walk_at "r"
   refine⟨M,zT M,fun D' so' sp' e=>?_⟩
   obtain⟨rfl,rfl,rfl⟩:=IP (D:=Deed.put x pl k) e
   exact⟨by rw[show(.str x:PyData)=a0K x from rfl];simp[AQ,B4,C8,Deed.made],rfl⟩
 | take x=>
   have hx:AH x:=hr.1 x (by simp[Deed.names])
   rw[show Deed.d (Deed.take x) = .tuple [.str (a0Q "take"),.str x] from rfl]
   refine AA (d:=.str (a0Q "take")) (AC (j:=0) rfl) ?_
   walk_at "r"
   refine AF (t:=false) (by decide +kernel) ?_
   walk_at "r"
   refine AA (d:=.str (a0Q "take")) (AC (j:=0) rfl) ?_
   walk_at "r"
   refine D0 ?_
   walk_at "r"
   refine IE (ys:=["name", "split"]) ?_
   rw[show decide (a0Q "take" ∈ [a0Q "name", "split"])=false from by decide +kernel]
   walk_at "r"
   refine G0 ?_
   refine FZ fun q hq=>?_
   refine B9 ?_
   walk_at "r"
   refine AA (d:=.str x) (AC (j:=1) rfl) ?_
   walk_at "r"
   refine B9 ?_
   walk_at "r"
   refine AA (d:=.str x) rfl ?_
   walk_at "r"
   refine IK ?_
   refine⟨zU,yD rfl,by simp only[zI,a4J];decide +kernel,?_⟩
   rw[yG hq]
   walk_at "r"
   refine AA (d:=.str (a0Q "take")) (AC (j:=0) rfl) ?_
   walk_at "r"
   rw[show(J0 (a0Q "take") (List.map (fun k=>(a0K k.1,k.2)) [(a0Q "take", .str x),(a0Q "join", .str x)])).getD (.str (a0Q "")) = .str x from rfl]
   refine AD (AR 0) (by simp[CH]) ?_
   refine AX ?_
   walk_at "r"
   refine⟨by rw[zX];exact zQ hs26 (by decide),fun d=>!a0X d (.str x),id,?_,?_⟩
   · intro d hd M'
     obtain⟨z,hz,rfl⟩:=zL.mp hd
     have hzn:AH z:=hno.1 z (by simp[hz])
     walk_at "r"
     refine⟨rfl,?_⟩
     walk_at "r"
     refine AY (AJ hzn) (AJ hx) ?_
     rw[if_pos rfl]
     walk_at "r"
     refine⟨rfl,rfl,fun _=>?_⟩
     walk_at "r"
     exact⟨rfl,rfl⟩
   rw[EC]
   walk_at "r"
   refine⟨M,zT M,fun D' so' sp' e=>?_⟩
   obtain⟨rfl,rfl,rfl⟩:=IP (D:=Deed.take x) e
   exact⟨rfl,rfl⟩
 | move x pl=>
   have hx:AH x:=hr.1 x (by simp[Deed.names])
   rw[show Deed.d (Deed.move x pl) = .tuple [.str (a0Q "move"),.str x,.int pl] from rfl]
   refine AA (d:=.str (a0Q "move")) (AC (j:=0) rfl) ?_
   walk_at "r"
   refine AF (t:=false) (by decide +kernel) ?_
   walk_at "r"
   refine AA (d:=.str (a0Q "move")) (AC (j:=0) rfl) ?_
   walk_at "r"
   refine D0 ?_
   walk_at "r"
   refine IE (ys:=["name", "split"]) ?_
   rw[show decide (a0Q "move" ∈ [a0Q "name", "split"])=false from by decide +kernel]
   walk_at "r"
   refine G0 ?_
   refine FZ fun q hq=>?_
   refine B9 ?_
   walk_at "r"
   refine AA (d:=.str x) (AC (j:=1) rfl) ?_
   walk_at "r"
   refine B9 ?_
   walk_at "r"
   refine AA (d:=.int pl) rfl ?_
   walk_at "r"
   refine IK ?_
   refine⟨zU,yD rfl,by simp only[zI,a4J];decide +kernel,?_⟩
   rw[yG hq]
   walk_at "r"
   refine AA (d:=.str (a0Q "move")) (AC (j:=0) rfl) ?_
   walk_at "r"
   rw[show(J0 (a0Q "move") (List.map (fun k=>(a0K k.1,k.2)) [(a0Q "take", .str x),(a0Q "join", .int pl)])).getD (.str (a0Q "")) = .str (a0Q "") from rfl]
   refine AD (AR 0) (by simp[CH]) ?_
   refine AX ?_
   walk_at "r"
   refine⟨by rw[zX];exact zQ hs26 (by decide),fun d=>!a0X d (.str (a0Q "")),id,?_,?_⟩
   · intro d hd M'
     obtain⟨z,hz,rfl⟩:=zL.mp hd
     have hzn:AH z:=hno.1 z (by simp[hz])
     walk_at "r"
     refine⟨rfl,?_⟩
     walk_at "r"
     refine AY (AJ hzn) (by decide +kernel) ?_
     rw[if_pos rfl]
     walk_at "r"
     refine⟨rfl,rfl,fun _=>?_⟩
     walk_at "r"
     exact⟨rfl,rfl⟩
   rw[EC]
   walk_at "r"
   refine⟨M,zT M,fun D' so' sp' e=>?_⟩
   obtain⟨rfl,rfl,rfl⟩:=IP (D:=Deed.move x pl) e
   exact⟨by rw[eJ fun z hz=>hno.1 z (by simp[hz])];rfl,rfl⟩
 | count x k=>
   have hx:AH x:=hr.1 x (by simp[Deed.names])
   rw[show Deed.d (Deed.count x k) = .tuple [.str (a0Q "count"),.str x,.int k] from rfl]
   refine AA (d:=.str (a0Q "count")) (AC (j:=0) rfl) ?_
   walk_at "r"
   refine AF (t:=false) (by decide +kernel) ?_
   walk_at "r"
   refine AA (d:=.str (a0Q "count")) (AC (j:=0) rfl) ?_
   walk_at "r"
   refine D0 ?_
   walk_at "r"
   refine IE (ys:=["name", "split"]) ?_
   rw[show decide (a0Q "count" ∈ [a0Q "name", "split"])=false from by decide +kernel]
   walk_at "r"
   refine G0 ?_
   refine FZ fun q hq=>?_
   refine B9 ?_
   walk_at "r"
   refine AA (d:=.str x) (AC (j:=1) rfl) ?_
   walk_at "r"
   refine B9 ?_
   walk_at "r"
   refine AA (d:=.int k) rfl ?_
   walk_at "r"
   refine IK ?_
   refine⟨zU,yD rfl,by simp only[zI,a4J];decide +kernel,?_⟩
   rw[yG hq]
   walk_at "r"
   refine AA (d:=.str (a0Q "count")) (AC (j:=0) rfl) ?_
   walk_at "r"
   rw[show(J0 (a0Q "count") (List.map (fun k=>(a0K k.1,k.2)) [(a0Q "take", .str x),(a0Q "join", .int k)])).getD (.str (a0Q "")) = .str (a0Q "") from rfl]
   refine AD (AR 0) (by simp[CH]) ?_
   refine AX ?_
   walk_at "r"
   refine⟨by rw[zX];exact zQ hs26 (by decide),fun d=>!a0X d (.str (a0Q "")),id,?_,?_⟩
   · intro d hd M'
     obtain⟨z,hz,rfl⟩:=zL.mp hd
     have hzn:AH z:=hno.1 z (by simp[hz])
     walk_at "r"
     refine⟨rfl,?_⟩
     walk_at "r"
     refine AY (AJ hzn) (by decide +kernel) ?_
     rw[if_pos rfl]
     walk_at "r"
     refine⟨rfl,rfl,fun _=>?_⟩
     walk_at "r"
     exact⟨rfl,rfl⟩
   rw[EC]
   walk_at "r"
   refine⟨M,zT M,fun D' so' sp' e=>?_⟩
   obtain⟨rfl,rfl,rfl⟩:=IP (D:=Deed.count x k) e
   exact⟨by rw[eJ fun z hz=>hno.1 z (by simp[hz])];rfl,rfl⟩
 | name x y=>
   have hx:AH x:=hr.1 x (by simp[Deed.names])
   have hy:AH y:=hr.1 y (by simp[Deed.names])
   rw[show Deed.d (Deed.name x y) = .tuple [.str (a0Q "name"),.str x,.str y] from rfl]
   refine AA (d:=.str (a0Q "name")) (AC (j:=0) rfl) ?_
   walk_at "r"
   refine AF (t:=false) (by decide +kernel) ?_
   walk_at "r"
   refine AA (d:=.str (a0Q "name")) (AC (j:=0) rfl) ?_
   walk_at "r"
   refine D0 ?_
   walk_at "r"
   refine IE (ys:=["name", "split"]) ?_
   rw[show decide (a0Q "name" ∈ [a0Q "name", "split"])=true from by decide +kernel]
   walk_at "r"
   refine AD (AR 0) (by simp[F3]) ?_
   refine AX ?_
   walk_at "r"
   refine⟨by rw[zX];exact zQ hs26 (by decide),fun d=>!a0X d (.str x),id,?_,?_⟩
   · intro d hd M'
     obtain⟨z,hz,rfl⟩:=zL.mp hd
     have hzn:AH z:=hno.1 z (by simp[hz])
     walk_at "r"
     refine⟨rfl,?_⟩
     walk_at "r"
     refine AA (d:=.str x) (AC (j:=1) rfl) ?_
     refine AY (AJ hzn) (AJ hx) ?_
     rw[if_pos rfl]
     cases hq:a0X (.str z) (.str x) with
     | false=>
       walk_at "r"
       refine⟨rfl,by show _ = !a0X (.str z) (.str x);rw[hq];rfl,fun _=>?_⟩
       walk_at "r"
       exact⟨rfl,rfl⟩
     | true=>
       walk_at "r"
       refine AA (d:=.str (a0Q "name")) (AC (j:=0) rfl) ?_
       walk_at "r"
       refine AF (t:=false) (by decide +kernel) ?_
       walk_at "r"
       refine⟨rfl,by show _ = !a0X (.str z) (.str x);rw[hq];rfl,fun h=>?_⟩
       have h:(!a0X (.str z) (.str x))=true:=h
       rw[hq] at h;cases h
   rw[EC]
   walk_at "wkd"
   refine AA (d:=.str y) (AC (j:=2) rfl) ?_
   walk_at "r"
   refine DK (by rw[zX];exact zN (b1X (zN (yJ _ _) hs26) 1) (by decide)) ?_
   walk_at "r"
   refine CJ ?_
   rw[show EJ (sp.map a0K) (some 1) none=(sp.drop 1).map .str from(JT _ 1).trans (by rw[b5W])]
   walk_at "r"
   refine⟨M,zT M,fun D' so' sp' e=>?_⟩
   obtain⟨rfl,rfl,rfl⟩:=IP (D:=Deed.name x y) e
   exact⟨by simp[AQ,B4,C8,Deed.made],rfl⟩
 | split x y pl k=>
   have hx:AH x:=hr.1 x (by simp[Deed.names])
   have hy:AH y:=hr.1 y (by simp[Deed.names])
   rw[show Deed.d (Deed.split x y pl k) = .tuple [.str (a0Q "split"),.str x,.str y,.int pl,.int k] from rfl]
   refine AA (d:=.str (a0Q "split")) (AC (j:=0) rfl) ?_
   walk_at "r"
   refine AF (t:=false) (by decide +kernel) ?_
   walk_at "r"
   refine AA (d:=.str (a0Q "split")) (AC (j:=0) rfl) ?_
   walk_at "r"
   refine D0 ?_
   walk_at "r"
   refine IE (ys:=["name", "split"]) ?_
   rw[show decide (a0Q "split" ∈ [a0Q "name", "split"])=true from by decide +kernel]
   walk_at "r"
   refine AD (AR 0) (by simp[F3]) ?_
   refine AX ?_
   walk_at "r"
   refine⟨by rw[zX];exact zQ hs26 (by decide),fun _=>true,id,?_,?_⟩
   · intro d hd M'
     obtain⟨z,hz,rfl⟩:=zL.mp hd
     have hzn:AH z:=hno.1 z (by simp[hz])
     walk_at "r"
     refine⟨rfl,?_⟩
     walk_at "r"
     refine AA (d:=.str x) (AC (j:=1) rfl) ?_
     refine AY (AJ hzn) (AJ hx) ?_
     rw[if_pos rfl]
     cases hq:a0X (.str z) (.str x) with
     | false=>
       walk_at "r"
       refine⟨rfl,rfl,fun _=>?_⟩
       walk_at "r"
       exact⟨rfl,rfl⟩
     | true=>
       walk_at "r"
       refine AA (d:=.str (a0Q "split")) (AC (j:=0) rfl) ?_
       walk_at "r"
       refine AF (t:=true) (by decide +kernel) ?_
       walk_at "r"
       refine⟨rfl,rfl,fun _=>?_⟩
       walk_at "r"
       exact⟨rfl,rfl⟩
   rw[N1,a9Z]
   walk_at "wkd"
   refine AA (d:=.str y) (AC (j:=2) rfl) ?_
   walk_at "r"
   refine DK (by rw[zX];exact zN (b1X (hs26) 1) (by decide)) ?_
   walk_at "r"
   refine CJ ?_
   rw[show EJ (sp.map a0K) (some 1) none=(sp.drop 1).map .str from(JT _ 1).trans (by rw[b5W])]
   walk_at "r"
   refine⟨M,zT M,fun D' so' sp' e=>?_⟩
   obtain⟨rfl,rfl,rfl⟩:=IP (D:=Deed.split x y pl k) e
   exact⟨by simp[AQ,B4,C8,Deed.made],rfl⟩
 | join x y=>
   have hx:AH x:=hr.1 x (by simp[Deed.names])
   have hy:AH y:=hr.1 y (by simp[Deed.names])
   rw[show Deed.d (Deed.join x y) = .tuple [.str (a0Q "join"),.str x,.str y] from rfl]
   refine AA (d:=.str (a0Q "join")) (AC (j:=0) rfl) ?_
   walk_at "r"
   refine AF (t:=false) (by decide +kernel) ?_
   walk_at "r"
   refine AA (d:=.str (a0Q "join")) (AC (j:=0) rfl) ?_
   walk_at "r"
   refine D0 ?_
   walk_at "r"
   refine IE (ys:=["name", "split"]) ?_
   rw[show decide (a0Q "join" ∈ [a0Q "name", "split"])=false from by decide +kernel]
   walk_at "r"
   refine G0 ?_
   refine FZ fun q hq=>?_
   refine B9 ?_
   walk_at "r"
   refine AA (d:=.str x) (AC (j:=1) rfl) ?_
   walk_at "r"
   refine B9 ?_
   walk_at "r"
   refine AA (d:=.str y) rfl ?_
   walk_at "r"
   refine IK ?_
   refine⟨zU,yD rfl,by simp only[zI,a4J];decide +kernel,?_⟩
   rw[yG hq]
   walk_at "r"
   refine AA (d:=.str (a0Q "join")) (AC (j:=0) rfl) ?_
   walk_at "r"
   rw[show(J0 (a0Q "join") (List.map (fun k=>(a0K k.1,k.2)) [(a0Q "take", .str x),(a0Q "join", .str y)])).getD (.str (a0Q "")) = .str y from rfl]
   refine AD (AR 0) (by simp[CH]) ?_
   refine AX ?_
   walk_at "r"
   refine⟨by rw[zX];exact zQ hs26 (by decide),fun d=>!a0X d (.str y),id,?_,?_⟩
   · intro d hd M'
     obtain⟨z,hz,rfl⟩:=zL.mp hd
     have hzn:AH z:=hno.1 z (by simp[hz])
     walk_at "r"
     refine⟨rfl,?_⟩
     walk_at "r"
     refine AY (AJ hzn) (AJ hy) ?_
     rw[if_pos rfl]
     walk_at "r"
     refine⟨rfl,rfl,fun _=>?_⟩
     walk_at "r"
     exact⟨rfl,rfl⟩
   rw[EC]
   walk_at "r"
   refine⟨M,zT M,fun D' so' sp' e=>?_⟩
   obtain⟨rfl,rfl,rfl⟩:=IP (D:=Deed.join x y) e
   exact⟨rfl,rfl⟩
end
def LN:List Str:=["_law_pack", "_law_names_here", "_law_amount", "_law_some"]
def JE:List Str:=["_law_k", "_law_names_here", "_law_pack"]
def JF:List (Option Nat):=[none,some 1,some 0]
theorem QG:JE.Nodup:=by decide +kernel
theorem LO:FnScope LN ["_law_pack", "_law_names_here", "_law_amount"] (AB E5):=⟨rfl,rfl,rfl,by decide +kernel,rfl,by decide +kernel,by decide +kernel⟩
section
local macro_rules | `(tactic| walk_at "cs")=>`(tactic| first | exact @DY _ _ JE JF (AB E5) LN (by decide +kernel) (by decide +kernel) rfl rfl)
theorem U2 {f:Addr}{fd:FuncData}(F:Fun K "_law_start" "_law_start" E5 f fd) (n_range:mg "range"=none) (n_sorted:mg "sorted"=none) (n_tuple:mg "tuple"=none) (h__law_take:Has P w K mg base "_law_take" 1 ["_law_pack", "_law_size"] BE):FnOk P w K mg base CX0 2 f fd ["_law_pack", "_law_names_here", "_law_amount"] (spD K 3 DX):=by
 refine fnD F LO fun cdv A outer s H E hr=>?_
 have hu:=hr.units
 have nd:=LO.nd
 have n0:=QG
 refine⟨_,by walk_at "b2", ?_⟩
 clear nd n0
 rintro xs M hl ⟨p,o,ys,n,rfl,m,ho,hy,hn⟩
 have h26:n<=26:=zN hn hy.2.2
 walk_at "dl";walk_at "dl"
 refine VW (AR 0) (by simp[JF]) ?_
 refine MT ?_
 walk_at "r"
 refine⟨by omega,by omega,?_⟩
 have hnn:(CC 0 (n:Int).toNat).length=n:=by simp[CC]
 refine⟨by rw[hnn];exact zQ h26 (by decide),fun A hA=>?_⟩
 have hpA:p≠A:=by rintro rfl;rw[m] at hA;cases hA
 refine⟨fun k acc M'=>∃(w:List Th) (o2:MO),acc=w.map thD/\w.length=k/\w.map (·.1)=ys.take k/\(∀t∈w,0<=t.2.1/\t.2.1<=999)/\DN o2/\M'=(M.put p o2).put A (.l acc),⟨[],o,rfl,rfl,by simp,by simp,ho,by rw[Own.put_self m]⟩,?_,?_,?_⟩
 · rintro k acc M' ⟨w,o2,rfl,hk,-,-,-,rfl⟩
   exact⟨zU,by simp[hk]⟩
 · rintro k d acc M' hd ⟨w,o2,rfl,hk,hw,hb,ho2,rfl⟩
   have hkn:k < n:=by rw[← hnn];exact(yT.mp hd).1
   have ed:d = .int k:=by
     unfold CC at hd
     rw[zF,yA (by omega)] at hd
     simp at hd;exact hd.symm
   subst ed
   have hky:k < ys.length:=by omega
   have hg:(ys.map a0K)[k]?=some (.str ys[k]):=by rw[zF,zV hky];rfl
   walk_at "r"
   refine D6 (AC hg) ?_
   walk_at "r"
   refine BF (by rw[yH hpA];exact zU) ho2 (by decide) (by decide) fun v o3 h0 h1 ho3=>?_
   walk_at "r"
   refine BF zU ho3 (by decide) (by decide) fun v2 o4 _ _ ho4=>?_
   walk_at "r"
   refine⟨by rw[yI,yH hpA.symm];exact zU,w++[(ys[k],v,v2 - 20)],o4,by simp[thD],by simp[hk],by rw[xI,hw,a5Q,zV hky];rfl,?_,ho4,?_⟩
   · intro t ht
     rcases yW.mp ht with h | h
     · exact hb t h
     · have:t=(ys[k],v,v2 - 20):=by simpa using h
       subst this;exact⟨h0,by show v<=999;omega⟩
   · rw[yI];exact l0 hpA
 · rintro acc M' ⟨w,o2,rfl,hk,hw,hb,ho2,rfl⟩
   rw[hnn] at hk hw
   rw[yG (by rw[yH hpA.symm];exact hA)]
   walk_at "r"
   have ndw:(w.map (·.1)).Nodup:=by rw[hw];exact hy.2.1.sublist (List.take_sublist _ _)
   rw[← mD]
   refine lO (by rw[zD];exact ndw) (by rw[zX];omega) fun ts' hp hlt=>?_
   obtain⟨u1,u2,u3⟩:=mE hp
   rw[u2]
   walk_at "r"
   refine FE ?_
   refine⟨M.put p o2,zT _,fun p' ys' n' e=>?_⟩
   simp only[List.cons.injEq,DS.loc.injEq,DS.d.injEq,PyData.int.injEq,Int.ofNat_inj,and_true] at e
   obtain⟨rfl,e,rfl⟩:=e
   have e:=G3 e
   subst e
   refine⟨ts'.map unB,o2,rfl,⟨by rw[u3];exact bW hlt,fun t ht=>?_⟩,by rw[← hw];exact u1.map _,ho2,rfl⟩
   have ht:=u1.mem_iff.mp ht
   refine⟨hy.1 _ ?_,hb t ht⟩
   have:t.1∈ys.take n:=by rw[← hw];exact zL.mpr ⟨t,ht,rfl⟩
   exact a8K this
end
def U3:List Str:=["_law_some", "_law_spare", "_law_cells", "_law_lines_here", "_law_cell", "_law_digits", "_law_hand", "_law_deed_here"]
theorem LP:FnScope U3 ["_law_some", "_law_spare", "_law_cells"] (AB FN):=⟨rfl,rfl,rfl,by decide +kernel,rfl,by decide +kernel,by decide +kernel⟩
section
local macro_rules | `(tactic| walk_at "x")=>`(tactic| first | ((with_reducible show PS _ (.Assign [.Tuple ..] ..) _);exact @O9 _ _ _ _ _ _ (by walk_at "e") (by walk_at "g") (by rfl) (by rfl) (by rfl)) | ((with_reducible show PG _ (.Tuple ..) _);exact @RR _ K _ _ _ _ (2) rfl rfl (by walk_at "j") (by rfl) (by rfl)))
theorem U4 {f:Addr}{fd:FuncData}(F:Fun K "_law_lines" "_law_lines" FN f fd) (h__law_after:Has P w K mg base "_law_after" 1 ["_law_deed_here", "_law_some", "_law_spare"] DW) (h__law_deed:Has P w K mg base "_law_deed" 2 ["_law_pack", "_law_some", "_law_spare"] DC) (h__law_mixed:Has P w K mg base "_law_mixed" 1 ["_law_cell"] C6) (h__law_take:Has P w K mg base "_law_take" 1 ["_law_pack", "_law_size"] BE):FnOk P w K mg base CX0 3 f fd ["_law_some", "_law_spare", "_law_cells"] (spD K 3 HW):=by
 refine fnD F LP fun cdv A outer s H E hr=>?_
 have hu:=hr.units
 have nd:=LP.nd
 refine⟨_,by walk_at "b2", ?_⟩
 clear nd
 rintro xs M hl ⟨so0,sp0,cs,rfl,hno0,hcs,hcl⟩
 walk_at "r"
 refine MS ?_
 walk_at "r"
 intro A hMA
 walk_at "wks"
 refine RH (fun ρ1 M1=>∃(ls:List Ln) (so sp:List Str) (x1 x2 x3 x4:Option DS),M.Sub M1/\M1 A=some (.l (ls.map AU))/\lnQ so0 sp0 cs ls so sp/\ρ1=[some (.d (AQ so)),some (.d (AQ sp)),some (.d (.list (cs.map .int))),some (.loc A),x1,x2,x3,x4]) ?_ ?_
 · refine HA ?_
   refine AX ?_
   walk_at "r"
   refine⟨fun k ρ1 M1=>k<=cs.length/\∃(ls:List Ln) (so sp:List Str) (x1 x2 x3 x4:Option DS),M.Sub M1/\M1 A=some (.l (ls.map AU))/\(ED so0 sp0 (ls.map (·.2))/\L8 so0 sp0 (ls.map (·.2))=(so,sp))/\(∀l∈ls,AH l.1)/\ls.length<=k/\namesOK (so++sp)/\ρ1=[some (.d (AQ so)),some (.d (AQ sp)),some (.d (.list (cs.map .int))),some (.loc A),x1,x2,x3,x4],⟨xT _,[],so0,sp0,_,_,_,_,(zT M).put hMA,zU,⟨trivial,rfl⟩,by simp,by simp,hno0,rfl⟩,?_,?_⟩
   · rintro k d ρ1 M1 hd ⟨hkc,ls,so,sp,x1,x2,x3,x4,hsub,hMa,hb,hnl,hlk,hno,rfl⟩
     have hkl:k < cs.length:=by have:=(yT.mp hd).1;simpa using this
     obtain⟨c,hc,rfl⟩:=zL.mp (yN hd)
     walk_at "r"
     refine MS ?_
     walk_at "r"
     refine MA (hcs c hc) fun v2=>?_
     walk_at "r"
     intro q hq
     have hqA:q≠A:=by rintro rfl;rw[hMa] at hq;cases hq
     have hMq:M q=none:=by
       cases e:M q with
       | none=>rfl
       | some ob=>rw[hsub q ob e] at hq;cases hq
     walk_at "r"
     refine D0 ?_
     walk_at "r"
     refine BF zU ⟨v2,rfl⟩ (by decide) (by decide) fun v3 o4 b0 b1 ho4=>?_
     rw[yI]
     obtain⟨hd',ehd,mhd⟩:=QS (ys:=[a0Q "me", "you", "abcdefgh"]) b0 b1
     refine D6 (d:=.str hd') ehd ?_
     have hs1:zH (AQ so)=true:=C9 fun z hz=>hno.1 z (by simp[hz])
     have hs2:zH (AQ sp)=true:=C9 fun z hz=>hno.1 z (by simp[hz])
     walk_at "wkd"
     refine AY hs1 rfl ?_
     rw[if_pos rfl,BQ]
     have keep:∀ob:MO,M.Sub (M1.put q ob):=fun ob b o e=>by
       rw[yH (by rintro rfl;rw[hMq] at e;cases e)];exact hsub b o e
     cases hso:so.isEmpty with
     | false=>
       have hne:so≠[]∨sp≠[]:=.inl fun q=>by rw[q] at hso;cases hso
       walk_at "r"
       · refine MD zU ho4 hno hne fun D o5 hr ha hm ho5=>?_
         rw[yI]
         walk_at "r"
         refine JU ?_
         walk_at "r"
         refine SG hr hno ha ?_
         walk_at "r"
         refine dH ?_
         walk_at "dl"
         refine⟨VU (ds:=ls.map AU) (by rw[yH hqA.symm];exact hMa),?_⟩
         walk_at "r"
         refine OF (ds:=ls.map AU) (by rw[yH hqA.symm];exact hMa) (by rw[zX];exact zQ (show _<=50 by omega) (by decide)) ?_
         refine⟨by omega,ls++[(hd',D)],B4 so D,C8 sp D,_,_,_,_,?_,?_,?_,?_,?_,hno.sub (FS hm),rfl⟩
         · intro b o e
           rw[yH (by rintro rfl;rw[hMA] at e;cases e)]
           exact keep _ b o e
         · rw[xI];exact zU
         · rw[xI];exact ME hb.1 hb.2 ha hm hr
         · intro l hl'
           rcases yW.mp hl' with q1 | q1
           · exact hnl l q1
           · have:l=(hd',D):=by simpa using q1
             subst this;exact SH _ mhd
         · rw[yY];simp;omega
     | true=>
       walk_at "wkd"
       refine AY hs2 rfl ?_
       rw[if_pos rfl,BQ]
       cases hsp:sp.isEmpty with
       | false=>
         have hne:so≠[]∨sp≠[]:=.inr fun q=>by rw[q] at hsp;cases hsp
         walk_at "r"
         · refine MD zU ho4 hno hne fun D o5 hr ha hm ho5=>?_
           rw[yI]
           walk_at "r"
           refine JU ?_
           walk_at "r"
           refine SG hr hno ha ?_
           walk_at "r"
           refine dH ?_
           walk_at "dl"
           refine⟨VU (ds:=ls.map AU) (by rw[yH hqA.symm];exact hMa),?_⟩
           walk_at "r"
           refine OF (ds:=ls.map AU) (by rw[yH hqA.symm];exact hMa) (by rw[zX];exact zQ (show _<=50 by omega) (by decide)) ?_
           refine⟨by omega,ls++[(hd',D)],B4 so D,C8 sp D,_,_,_,_,?_,?_,?_,?_,?_,hno.sub (FS hm),rfl⟩
           · intro b o e
             rw[yH (by rintro rfl;rw[hMA] at e;cases e)]
             exact keep _ b o e
           · rw[xI];exact zU
           · rw[xI];exact ME hb.1 hb.2 ha hm hr
           · intro l hl'
             rcases yW.mp hl' with q1 | q1
             · exact hnl l q1
             · have:l=(hd',D):=by simpa using q1
               subst this;exact SH _ mhd
           · rw[yY];simp;omega
       | true=>
         walk_at "r"
         exact⟨by omega,ls,so,sp,_,_,_,_,keep _,by rw[yH hqA.symm];exact hMa,hb,hnl,by omega,hno,rfl⟩
   · rintro ρ1 M1 ⟨hkc,ls,so,sp,x1,x2,x3,x4,hsub,hMa,hb,hnl,hlk,hno,rfl⟩
     rw[zX] at hlk
     exact⟨ls,so,sp,x1,x2,x3,x4,hsub,hMa,⟨hb.1,hb.2,hnl,hlk,hno⟩,rfl⟩
 · rintro ρ1 M1 ⟨ls,so,sp,x1,x2,x3,x4,hsub,hMa,hq,rfl⟩
   refine UK (i:=3) (a:=A) rfl hMa ?_
   walk_at "r"
   refine⟨M,fun b o e=>?_,fun so' sp' cs' e=>?_⟩
   · have hne:b≠A:=by rintro rfl;rw[hMA] at e;cases e
     unfold Own.del
     rw[if_neg hne]
     exact hsub b o e
   · simp only[List.cons.injEq,DS.d.injEq,and_true] at e
     obtain⟨e1,e2,e3⟩:=e
     obtain rfl:=G3 e1
     obtain rfl:=G3 e2
     have e3:cs=cs':=(List.map_inj_right (fun a b h=>PyData.int.inj h)).mp (PyData.list.inj e3)
     subst e3
     exact⟨rfl,ls,so,sp,rfl,hq⟩
end
def U5:List Str:=["_law_head", "_law_pack", "_law_spare", "_law_amount"]
theorem LQ:FnScope U5 ["_law_head"] (AB FO):=⟨rfl,rfl,rfl,by decide +kernel,rfl,by decide +kernel,by decide +kernel⟩
theorem U6 {f:Addr}{fd:FuncData}(F:Fun K "_law_begun" "_law_begun" FO f fd) (h__law_mixed:Has P w K mg base "_law_mixed" 1 ["_law_cell"] C6) (h__law_names:Has P w K mg base "_law_names" 2 ["_law_pack", "_law_amount"] DO) (h__law_start:Has P w K mg base "_law_start" 2 ["_law_pack", "_law_names_here", "_law_amount"] DX) (h__law_take:Has P w K mg base "_law_take" 1 ["_law_pack", "_law_size"] BE):FnOk P w K mg base CX0 3 f fd ["_law_head"] (spD K 1 HV):=by
 refine fnD F LQ fun cdv A outer s H E hr=>?_
 have hu:=hr.units
 have nd:=LQ.nd
 refine⟨_,by walk_at "b2", ?_⟩
 clear nd
 rintro xs M hl ⟨h,rfl,hh⟩
 walk_at "r"
 refine MS ?_
 walk_at "r"
 refine MA hh fun v=>?_
 walk_at "r"
 intro p hp
 walk_at "r"
 refine bQ zU ⟨v,rfl⟩ (by decide) (by decide) fun ys o1 hyl hy hyb hyn ho1=>?_
 rw[yI]
 walk_at "r"
 refine BF zU ho1 (by decide) (by decide) fun va o2 a0 a1 ho2=>?_
 rw[yI]
 obtain⟨n,rfl⟩:∃n:Nat,va=(n:Int):=⟨va.toNat,by omega⟩
 have hyok:namesOK ys:=⟨hy,hyn,by omega⟩
 walk_at "r"
 refine bV zU ho2 hyok (by omega) fun w0 o3 hw0 hpm ho3=>?_
 rw[yI]
 walk_at "r"
 refine CJ ?_
 rw[OI,← a7V]
 walk_at "r"
 refine CJ ?_
 rw[JT,← b5W]
 walk_at "r"
 exact⟨M,(zT M).put hp,rfl,w0,ys.take n,ys.drop n,rfl,hw0,hpm,by rw[List.take_append_drop];exact hyok,by have:=hpm.length_eq;rw[zX,a0J] at this;omega⟩
def XC:List Str:=["_law_deed_here"]
theorem O2:FnScope XC ["_law_deed_here"] (AB GT):=⟨rfl,rfl,rfl,by decide +kernel,rfl,by decide +kernel,by decide +kernel⟩
section
local macro_rules | `(tactic| walk_at "x")=>`(tactic| first | ((with_reducible show PE _ (.Call (.Attribute _ (a0Q "get") _) ..) _);exact @MR _ _ _ _ _ _ _ _ _ hu1 (by walk_at "e") (by walk_at "e") (by walk_at "e") (@L2.M2.mk _ _ _ _ _ _ _ rfl rfl rfl rfl)) | ((with_reducible show PE _ (.Dict ..) _);exact @QN _ _ _ _ _ (@D3 _ _ _ _ _ _ _ _ _ (by walk_at "e") (by walk_at "e") (@D3 _ _ _ _ _ _ _ _ _ (by walk_at "e") (by walk_at "e") (@D3 _ _ _ _ _ _ _ _ _ (by walk_at "e") (by walk_at "e") (@QM _ _)))) rfl rfl (by simp) (by decide)))
theorem XD {f:Addr}{fd:FuncData}(F:Fun K "_law_made" "_law_made" GT f fd):FnOk P w K mg base CX0 1 f fd ["_law_deed_here"] (spD K 1 NG):=by
 refine fnD F O2 fun cdv A outer s H E hr=>?_
 have hu:=hr.units
 have hu1:=zQ (a1J (show 1<=64 by decide) _) hu
 have nd:=O2.nd
 refine⟨_,by walk_at "b1", ?_⟩
 clear nd
 rintro xs M hl ⟨D,rfl,hr⟩
 walk_at "r"
 cases D <;> (
   refine G0 ?_
   refine FZ fun q hq=>?_
   refine B9 ?_
   walk_at "r"
   refine BX ?_
   walk_at "r"
   refine B9 ?_
   walk_at "r"
   refine BX ?_
   walk_at "r"
   refine B9 ?_
   walk_at "r"
   refine BX ?_
   walk_at "r"
   refine IK ?_
   refine⟨zU,yD rfl,by simp only[zI,a4J];decide +kernel,?_⟩
   rw[yG hq]
   walk_at "r"
   refine AA (d:=_) rfl ?_
   walk_at "r"
   refine⟨M,zT M,fun D' e=>?_⟩
   simp only[List.cons.injEq,DS.d.injEq,and_true] at e
   obtain rfl:=D4 e
   exact⟨rfl,rfl⟩)
end
def U7:List Str:=["_law_deed_here"]
theorem LR:FnScope U7 ["_law_deed_here"] (AB FP):=⟨rfl,rfl,rfl,by decide +kernel,rfl,by decide +kernel,by decide +kernel⟩
section
local macro_rules | `(tactic| walk_at "x")=>`(tactic| first | ((with_reducible show PE _ (.Call (.Attribute _ (a0Q "get") _) ..) _);exact @MR _ _ _ _ _ _ _ _ _ hu1 (by walk_at "e") (by walk_at "e") (by walk_at "e") (@L2.M2.mk _ _ _ _ _ _ _ rfl rfl rfl rfl)) | ((with_reducible show PE _ (.Dict ..) _);exact @QN _ _ _ _ _ (@D3 _ _ _ _ _ _ _ _ _ (by walk_at "e") (by walk_at "e") (@D3 _ _ _ _ _ _ _ _ _ (by walk_at "e") (by walk_at "e") (@D3 _ _ _ _ _ _ _ _ _ (by walk_at "e") (by walk_at "e") (@QM _ _)))) rfl rfl (by simp) (by decide)))
theorem U8 {f:Addr}{fd:FuncData}(F:Fun K "_law_ended" "_law_ended" FP f fd):FnOk P w K mg base CX0 1 f fd ["_law_deed_here"] (spD K 1 KQ):=by
 refine fnD F LR fun cdv A outer s H E hr=>?_
 have hu:=hr.units
 have hu1:=zQ (a1J (show 1<=64 by decide) _) hu
 have nd:=LR.nd
 refine⟨_,by walk_at "b1", ?_⟩
 clear nd
 rintro xs M hl ⟨D,rfl,hr⟩
 walk_at "r"
 cases D <;> (
   refine G0 ?_
   refine FZ fun q hq=>?_
   refine B9 ?_
   walk_at "r"
   refine BX ?_
   walk_at "r"
   refine B9 ?_
   walk_at "r"
   refine BX ?_
   walk_at "r"
   refine B9 ?_
   walk_at "r"
   refine BX ?_
   walk_at "r"
   refine IK ?_
   refine⟨zU,yD rfl,by simp only[zI,a4J];decide +kernel,?_⟩
   rw[yG hq]
   walk_at "r"
   refine AA (d:=_) rfl ?_
   walk_at "r"
   refine⟨M,zT M,fun D' e=>?_⟩
   simp only[List.cons.injEq,DS.d.injEq,and_true] at e
   obtain rfl:=D4 e
   exact⟨rfl,rfl⟩)
end
def T9:List Str:=["_law_deed_here"]
theorem KD:FnScope T9 ["_law_deed_here"] (AB EI):=⟨rfl,rfl,rfl,by decide +kernel,rfl,by decide +kernel,by decide +kernel⟩
section
local macro_rules | `(tactic| walk_at "x")=>`(tactic| first | ((with_reducible show PE _ (.Call (.Attribute _ (a0Q "get") _) ..) _);exact @MR _ _ _ _ _ _ _ _ _ hu1 (by walk_at "e") (by walk_at "e") (by walk_at "e") (@L2.M2.mk _ _ _ _ _ _ _ rfl rfl rfl rfl)) | ((with_reducible show PE _ (.Dict ..) _);exact @QN _ _ _ _ _ (@D3 _ _ _ _ _ _ _ _ _ (by walk_at "e") (by walk_at "e") (@D3 _ _ _ _ _ _ _ _ _ (by walk_at "e") (by walk_at "e") (@QM _ _))) rfl rfl (by simp) (by decide)))
theorem TB {f:Addr}{fd:FuncData}(F:Fun K "_law_wanted" "_law_wanted" EI f fd):FnOk P w K mg base CX0 1 f fd ["_law_deed_here"] (spD K 1 MJ):=by
 refine fnD F KD fun cdv A outer s H E hr=>?_
 have hu:=hr.units
 have hu1:=zQ (a1J (show 1<=64 by decide) _) hu
 have nd:=KD.nd
 refine⟨_,by walk_at "b1", ?_⟩
 clear nd
 rintro xs M hl ⟨D,rfl,hr⟩
 walk_at "r"
 cases D <;> (
   refine G0 ?_
   refine FZ fun q hq=>?_
   refine B9 ?_
   walk_at "r"
   refine B9 ?_
   walk_at "r"
   refine BX ?_
   walk_at "r"
   refine IK ?_
   refine⟨zU,yD rfl,by simp only[zI,a4J];decide +kernel,?_⟩
   rw[yG hq]
   walk_at "r"
   refine AA (d:=_) rfl ?_
   walk_at "r"
   refine BX ?_
   walk_at "r"
   refine⟨M,zT M,fun D' e=>?_⟩
   simp only[List.cons.injEq,DS.d.injEq,and_true] at e
   obtain rfl:=D4 e
   exact⟨rfl,rfl⟩)
end
def HE:List Str:=["_law_script", "_law_start_here", "_law_some", "_law_spare", "_law_lines_here", "_law_stay", "_law_other", "_law_pack", "_law_place", "_law_standing", "_law_hand", "_law_deed_here"]
def JG:List Str:=["_law_thing"]
def F4:List (Option Nat):=[none]
theorem QH:JG.Nodup:=by decide +kernel
def JH:List Str:=["_law_name", "_law_deed_here"]
def F5:List (Option Nat):=[none,some 11]
theorem QJ:JH.Nodup:=by decide +kernel
theorem LS:FnScope HE ["_law_script"] (AB CY):=⟨rfl,rfl,rfl,by decide +kernel,rfl,by decide +kernel,by decide +kernel⟩
section
local macro_rules | `(tactic| walk_at "cs")=>`(tactic| first | exact @DY _ _ JG F4 (AB CY) HE (by decide +kernel) (by decide +kernel) rfl rfl | exact @DY _ _ JH F5 (AB CY) HE (by decide +kernel) (by decide +kernel) rfl rfl)
local macro_rules | `(tactic| walk_at "x")=>`(tactic| first | ((with_reducible show PS _ (.Assign [.Tuple ..] ..) _);exact @O9 _ _ _ _ _ _ (by walk_at "e") (by walk_at "g") (by rfl) (by rfl) (by rfl)) | ((with_reducible show PG _ (.Tuple ..) _);exact @RR _ K _ _ _ _ (3) rfl rfl (by walk_at "j") (by rfl) (by rfl)) | ((with_reducible show PG _ (.Tuple ..) _);exact @Y3 _ K _ _ _ _ (2) rfl rfl (by walk_at "j") (by rfl) (by rfl)) | ((with_reducible show PT _ (.Compare _ [.NotIn] ..) _);exact @CL _ _ _ _ _ _ _ _ (@N5 _ K rfl hu) (by walk_at "e") (by walk_at "e") (by with_unfolding_all rfl)))
local macro_rules | `(tactic| walk_at "y")=>`(tactic| first | ((with_reducible show PE _ (.Call (.Name (a0Q "list") _) ..) _);exact @HG _ _ _ _ _ _ _ _ _ (@kT _ K rfl) (by rfl) n_list a8V (by walk_at "a") (by decide) (by decide) (by rfl) (by rfl)))
theorem U9 {f:Addr}{fd:FuncData}(F:Fun K "_law_asked" "_law_asked" CY f fd) (n_len:mg "len"=none) (n_list:mg "list"=none) (n_sum:mg "sum"=none) (n_tuple:mg "tuple"=none) (h__law_begun:Has P w K mg base "_law_begun" 3 ["_law_head"] HV) (h__law_ended:Has P w K mg base "_law_ended" 1 ["_law_deed_here"] KQ) (h__law_lines:Has P w K mg base "_law_lines" 3 ["_law_some", "_law_spare", "_law_cells"] HW) (h__law_made:Has P w K mg base "_law_made" 1 ["_law_deed_here"] NG) (h__law_mixed:Has P w K mg base "_law_mixed" 1 ["_law_cell"] C6) (h__law_take:Has P w K mg base "_law_take" 1 ["_law_pack", "_law_size"] BE):FnOk P w K mg base CX0 4 f fd ["_law_script"] (spD K 1 (HX 8)):=by
 refine fnD F LS fun cdv A outer s H E hr=>?_
 have hu:=hr.units
 have nd:=LS.nd
 have n0:=QH
 have n1:=QJ
 refine⟨_,by walk_at "b2", ?_⟩
 clear nd n0 n1
 rintro xs M hl ⟨ns,rfl,hbits⟩
 have bits:∀a b:Nat,∀c∈(ns.take a).drop b,xJ c<=2 ^ 21:=fun a b c hc=>zN (hbits c (a8K (b5Q hc))) (by decide)
 have one:∀a:Nat,xJ ((ns.take (a+1)).drop a).sum<=2 ^ 21:=fun a=>by
   rw[List.drop_take,b3Z]
   have hh:∀c∈ns.drop a,xJ c<=2 ^ 20:=fun c hc=>hbits c (b5Q hc)
   match ns.drop a,hh with
   | [],_=>decide
   | a::r,hb=>simp only[List.take_succ_cons,List.take_zero,List.sum_cons,List.sum_nil,Int.add_zero];exact zN (hb a (by simp)) (by decide)
 walk_at "r"
 refine JU ?_
 walk_at "r"
 refine CJ ?_
 rw[show EJ (ns.map a4W) none (some 1)=((ns.take 1).drop 0).map .int from(OI _ 1).trans (by rw[List.drop_zero,a7V])]
 walk_at "r"
 refine mB ?_
 walk_at "r"
 refine WP (one 0) fun w so sp hw hpm hno h5=>?_
 walk_at "r"
 refine JU ?_
 walk_at "r"
 refine CJ ?_
 rw[show EJ (ns.map a4W) (some 2) (some 10)=((ns.take 10).drop 2).map .int from(QO _ 2 10).trans (by rw[b5W,a7V])]
 walk_at "r"
 have hcs:((ns.take 10).drop 2).length<=10 - 2:=by rw[a5W,a0J];omega
 refine WQ hno (bits _ _) (zN hcs (by decide)) fun ls st ot hq=>?_
 have hfew:=hq.2.2.2.1
 have hA:∀j,j<=ls.length->A53 (10 - 2) w ls j (stN (BD w) (dsL (ls.take j))) ot:=fun j hj=>A53.of hw hpm h5 hno hq hcs (by decide) hj
 walk_at "r"
 refine MS ?_
 walk_at "r"
 refine CJ ?_
 rw[show EJ (ns.map a4W) (some 1) (some 2)=((ns.take 2).drop 1).map .int from(QO _ 1 2).trans (by rw[b5W,a7V])]
 walk_at "r"
 refine mB ?_
 walk_at "r"
 refine MA (one 1) fun v0=>?_
 walk_at "r"
 intro p hp
 walk_at "r"
 refine KJ ?_
 rw[zX]
 walk_at "r"
 refine BF zU ⟨v0,rfl⟩ (by omega) (by omega) fun v1 o1 a1 b1 ho1=>?_
 rw[yI]
 obtain⟨k,rfl⟩:∃n:Nat,v1=(n:Int):=⟨v1.toNat,by omega⟩
 have hk:k<=ls.length:=by omega
 walk_at "r"
 refine AD (AR 0) (by simp[F4,F5]) ?_
 refine CM ?_
 walk_at "r"
 refine⟨by rw[zX];exact zQ h5 (by decide),fun _=>true,fTh,?_,?_⟩
 · intro d hd M'
   obtain⟨t,ht,rfl⟩:=zL.mp hd
   walk_at "dl"
   refine⟨rfl,?_⟩
   walk_at "dl"
   refine⟨rfl,rfl,fun _=>?_⟩
   walk_at "r"
   refine AA (ds:=[.str t.1,.int t.2.1,.int t.2.2]) (d:=.str t.1) rfl ?_
   exact⟨rfl,rfl⟩
 rw[N1,fC]
 walk_at "r"
 refine HA ?_
 refine AX ?_
 walk_at "r"
 refine CJ ?_
 rw[OI,← a7V]
 refine⟨_,rfl,fun j ρ1 M1=>M1=M.put p o1/\j<=k/\∃x1 x2:Option DS,ρ1=[some (.d (.list (ns.map .int))),some (.d (wD w)),some (.d (AQ so)),some (.d (AQ sp)),some (.d (.list (ls.map AU))),some (.d (AQ st)),some (.d (AQ ot)),some (.loc p),some (.d (.int (k:Nat))),some (.d (AQ (stN (BD w) (dsL (ls.take j))))),x1,x2],⟨rfl,xT _,_,_,rfl⟩,?_,?_⟩
 · rintro j d ρ1 M1 hd ⟨rfl,_,x1,x2,rfl⟩
   rw[zF] at hd
   obtain⟨l,hlk,rfl⟩:=Option.map_eq_some_iff.mp hd
   have hj:j < k:=by have:=(yT.mp hlk).1;rw[a0J] at this;omega
   have hlj:ls[j]?=some l:=by rw[← hlk,b2K hj]
   have hr:=(hA 0 (xT _)).d.good.real l (yN hlj)
   have hok:=(hA j (by omega)).ok
   have hz1:∀z∈stN (BD w) (dsL (ls.take j)),AH z:=fun z hz=>hok.1 z (zA _ hz)
   have hstl:(stN (BD w) (dsL (ls.take j))).length<=26:=by have:=hok.2.2;rw[yY] at this;omega
   have htk:stN (BD w) (dsL (ls.take (j+1)))=OZ (stN (BD w) (dsL (ls.take j))) l.2:=by
     rw[a5Q,hlj,← ZP]
     congr 1
     simp[dsL]
   generalize stN (BD w) (dsL (ls.take j))=sj at *
   have hl1:(G7 l.2).length<=1:=by unfold G7;cases l.2.made <;> simp
   rw[show AU l = .tuple [.str l.1,l.2.d] from rfl]
   walk_at "r"
   refine AD (AR 0) (by simp[F4,F5]) ?_
   refine AX ?_
   walk_at "r"
   refine⟨by rw[zX];exact zQ hstl (by decide),wY (NF l.2),id,?_,?_⟩
   · intro d hd M'
     obtain⟨z,hz,rfl⟩:=zL.mp hd
     walk_at "dl"
     refine⟨rfl,?_⟩
     walk_at "r"
     refine G6 hr ?_
     refine KP (ds:=(NF l.2).map .str) (AJ (hz1 z hz)) (K5 fun y hy=>SR hr (by simpa [NF] using hy)) ?_
     refine⟨_,rfl,rfl,rfl,fun _=>?_⟩
     walk_at "r"
     exact⟨rfl,rfl⟩
   rw[ZK]
   walk_at "r"
   refine G6 hr ?_
   walk_at "r"
   refine MU ?_
   walk_at "r"
   have hfl:=yJ (fun z=>!decide (z∈NF l.2)) sj
   refine DK (by rw[zX,zX];exact zN (show _<=200 by omega) (by decide)) ?_
   rw[← xI]
   walk_at "r"
   exact⟨rfl,by omega,_,_,by rw[htk];rfl⟩
 · rintro ρ1 M1 ⟨rfl,_,x1,x2,rfl⟩
   rw[zX,a0J,a4Z hk]
   walk_at "wks"
   refine aU ?_
   refine rY ?_
   walk_at "r"
   refine FE ?_
   walk_at "r"
   exact⟨[AL w ls,.int (k:Nat),AQ (stN (BD w) (dsL (ls.take k))),AQ ot],p,rfl,show 4 < sizeLine by decide,M.put p o1,zT _,w,ls,k,_,ot,p,o1,rfl,hp,ho1,rfl,hA k hk⟩
end
def CI:List Str:=["_law_start_here", "_law_lines_here", "_law_standing", "_law_known", "_law_hand", "_law_deed_here", "_law_made_here"]
def GV:List Str:=["_law_thing"]
def BS:List (Option Nat):=[none]
theorem O3:GV.Nodup:=by decide +kernel
def GW:List Str:=["_law_name", "_law_standing"]
def BU:List (Option Nat):=[none,some 2]
theorem O4:GW.Nodup:=by decide +kernel
def GX:List Str:=["_law_name", "_law_known"]
def BV:List (Option Nat):=[none,some 3]
theorem O5:GX.Nodup:=by decide +kernel
def GY:List Str:=["_law_name", "_law_deed_here"]
def BW:List (Option Nat):=[none,some 5]
theorem O6:GY.Nodup:=by decide +kernel
theorem JI:FnScope CI ["_law_start_here", "_law_lines_here"] (AB B6):=⟨rfl,rfl,rfl,by decide +kernel,rfl,by decide +kernel,by decide +kernel⟩
section
local macro_rules | `(tactic| walk_at "cs")=>`(tactic| first | exact @DY _ _ GV BS (AB B6) CI (by decide +kernel) (by decide +kernel) rfl rfl | exact @DY _ _ GW BU (AB B6) CI (by decide +kernel) (by decide +kernel) rfl rfl | exact @DY _ _ GX BV (AB B6) CI (by decide +kernel) (by decide +kernel) rfl rfl | exact @DY _ _ GY BW (AB B6) CI (by decide +kernel) (by decide +kernel) rfl rfl)
local macro_rules | `(tactic| walk_at "x")=>`(tactic| first | ((with_reducible show PG _ (.Tuple ..) _);exact @Y3 _ K _ _ _ _ (2) rfl rfl (by walk_at "j") (by rfl) (by rfl)) | ((with_reducible show PE _ (.Compare _ [.In] ..) _);exact @FC _ _ _ _ _ _ _ _ (@wS _ K rfl hu) (by walk_at "e") (by walk_at "e") (by with_unfolding_all rfl)) | ((with_reducible show PE _ (.Compare _ [.NotIn] ..) _);exact @FC _ _ _ _ _ _ _ _ (@N5 _ K rfl hu) (by walk_at "e") (by walk_at "e") (by with_unfolding_all rfl)) | ((with_reducible show PT _ (.Compare _ [.NotIn] ..) _);exact @CL _ _ _ _ _ _ _ _ (@N5 _ K rfl hu) (by walk_at "e") (by walk_at "e") (by with_unfolding_all rfl)))
local macro_rules | `(tactic| walk_at "y")=>`(tactic| first | ((with_reducible show PE _ (.Call (.Name (a0Q "list") _) ..) _);exact @HG _ _ _ _ _ _ _ _ _ (@kT _ K rfl) (by rfl) n_list a8V (by walk_at "a") (by decide) (by decide) (by rfl) (by rfl)))
theorem QK {f:Addr}{fd:FuncData}(F:Fun K "_law_is_book" "_law_is_book" B6 f fd) (n_any:mg "any"=none) (n_list:mg "list"=none) (h__law_ended:Has P w K mg base "_law_ended" 1 ["_law_deed_here"] KQ) (h__law_made:Has P w K mg base "_law_made" 1 ["_law_deed_here"] NG) (h__law_wanted:Has P w K mg base "_law_wanted" 1 ["_law_deed_here"] MJ):FnOk P w K mg base CX0 2 f fd ["_law_start_here", "_law_lines_here"] (spD K 2 EG):=by
 refine fnD F JI fun cdv A outer s H E hr=>?_
 have hu:=hr.units
 have nd:=JI.nd
 have n0:=O3
 have n1:=O4
 have n2:=O5
 have n3:=O6
 refine⟨_,by walk_at "b2", ?_⟩
 clear nd n0 n1 n2 n3
 rintro xs M hl ⟨w,C,rfl,hw,hlw,hreal,hC⟩
 have fin:∀(M1:Own) (b:Bool),M1=M->Q8 (BD w) (BD w) (dsL C)=b->∃M2:Own,M2.Sub M1/\EG.post (isX w C) M (.d (.bool b)) M2:=fun M1 b e1 hb=>⟨M,e1▸zT M,fun w' C' e=>by
   simp only[List.cons.injEq,DS.d.injEq,PyData.list.injEq,PyData.tuple.injEq,and_true] at e
   obtain⟨g1,g2⟩:=e
   obtain rfl:=OV g2
   have g3:(BD w).map a0K=(BD w').map .str:=by rw[← PK,← PK];injection g1 with g1;rw[g1]
   have g4:BD w=BD w':=(List.map_inj_right (fun a b h=>PyData.str.inj h)).mp g3
   rw[← g4,hb]
   exact⟨rfl,rfl⟩⟩
 walk_at "r"
 refine AD (AR 0) (by simp[BS,BU,BV,BW]) ?_
 refine CM ?_
 walk_at "r"
 refine⟨by rw[zX];exact zQ hlw (by decide),fun _=>true,fTh,?_,?_⟩
 · intro d hd M'
   obtain⟨t,ht,rfl⟩:=zL.mp hd
   walk_at "dl"
   refine⟨rfl,?_⟩
   walk_at "dl"
   refine⟨rfl,rfl,fun _=>?_⟩
   walk_at "r"
   refine AA (ds:=[.str t.1,.int t.2.1,.int t.2.2]) (d:=.str t.1) rfl ?_
   exact⟨rfl,rfl⟩
 rw[N1,fC]
 walk_at "r"
 refine nN ?_
 walk_at "r"
 · refine HA ?_
   refine AX ?_
   walk_at "r"
   refine⟨fun k ρ1 M1=>M1=M/\k<=C.length/\∃(st kn:List Str) (x4 x5 x6:Option DS),st.length<=26+k/\kn.length<=26+k/\(∀z∈st,AH z)/\(∀z∈kn,AH z)/\Q8 (BD w) (BD w) (dsL C)=Q8 st kn ((dsL C).drop k)/\ρ1=[some (.d (wD w)),some (.d (.list (C.map AU))),some (.d (AQ st)),some (.d (AQ kn)),x4,x5,x6],?_,?_,?_⟩
   · have hnz:∀z∈BD w,AH z:=fun z hz=>by obtain⟨t,ht,rfl⟩:=zL.mp hz;exact hw t ht
     have hwl:(BD w).length<=26+0:=by rw[zX];omega
     exact⟨rfl,xT _,BD w,BD w,_,_,_,hwl,hwl,hnz,hnz,rfl,rfl⟩
   · rintro k d ρ1 M1 hd ⟨rfl,hk0,st,kn,x4,x5,x6,q1,q2,hz1,hz2,hI,rfl⟩
     rw[zF] at hd
     obtain⟨l,hlk,rfl⟩:=Option.map_eq_some_iff.mp hd
     have hk:=(yT.mp hlk).1
     have hr:=hreal l (yN hlk)
     have hdrop:(dsL C).drop k=l.2::(dsL C).drop (k+1):=by
       rw[List.drop_eq_getElem_cons (by rw[zX];exact hk)]
       congr 1
       rw[List.getElem_map,(yT.mp hlk).2]
     rw[hdrop,Q8] at hI
     rw[show AU l = .tuple [.str l.1,l.2.d] from rfl]
     have hl1:(G7 l.2).length<=1:=by unfold G7;cases l.2.made <;> simp
     have hwl:(GN l.2).length<=2:=by cases l.2 <;> simp[GN]
     have hmz:∀z∈G7 l.2,AH z:=fun z hz=>ZI hr (EF.mp hz)
     walk_at "r"
     refine G6 hr ?_
     walk_at "r"
     refine MU ?_
     walk_at "r"
     refine AD (AR 0) (by simp[BS,BU,BV,BW]) ?_
     refine AX ?_
     walk_at "r"
     refine⟨by rw[zX];exact zQ hl1 (by decide),fun _=>true,fun d=>.bool ((kn.map a0K).any fun e=>a0X e d),?_,?_⟩
     · intro d hd M'
       obtain⟨z,hz,rfl⟩:=zL.mp hd
       walk_at "dl"
       refine⟨rfl,?_⟩
       walk_at "dl"
       refine⟨rfl,rfl,fun _=>?_⟩
       walk_at "r"
       refine mO (ds:=kn.map .str) (AJ (hmz z hz)) (JW fun z hz=>FY (hz2 z hz)) ?_
       exact⟨rfl,rfl⟩
     rw[N1,rR]
     walk_at "r"
     refine kQ ?_
     rw[V5]
     cases h1:(G7 l.2).any fun x=>decide (x∈kn) with
     | true=>
       walk_at "r"
       exact fin _ false rfl (by rw[hI];unfold WL;rw[h1];rfl)
     | false=>
       walk_at "r"
       refine AD (AR 0) (by simp[BS,BU,BV,BW]) ?_
       refine CM ?_
       walk_at "r"
       refine G6 hr ?_
       refine⟨_,rfl,by rw[zX];exact zQ hwl (by decide),fun _=>true,fun d=>.bool (!((st.map a0K).any fun e=>a0X e d)),?_,?_⟩
       · intro d hd M'
         obtain⟨z,hz,rfl⟩:=zL.mp hd
         walk_at "dl"
         refine⟨rfl,?_⟩
         walk_at "dl"
         refine⟨rfl,rfl,fun _=>?_⟩
         walk_at "r"
         refine mO (ds:=st.map .str) (AJ (V4 hr (by rw[QY hr];exact hz))) (JW fun z hz=>FY (hz1 z hz)) ?_
         exact⟨rfl,rfl⟩
       rw[N1,nS]
       walk_at "r"
       refine kQ ?_
       rw[V5]
       cases h2:(GN l.2).any fun x=>!decide (x∈st) with
       | true=>
         walk_at "r"
         exact fin _ false rfl (by rw[hI];unfold WL;rw[h1,h2];rfl)
       | false=>
         walk_at "r"
         refine DK (by rw[zX,zX];exact zN (show _<=200 by omega) (by decide)) ?_
         rw[← xI]
         walk_at "r"
         refine AD (AR 0) (by simp[BS,BU,BV,BW]) ?_
         refine AX ?_
         walk_at "r"
         refine⟨by rw[zX];exact zQ (show _<=200 by omega) (by decide),wY (NF l.2),id,?_,?_⟩
         · intro d hd M'
           obtain⟨z,hz,rfl⟩:=zL.mp hd
           walk_at "dl"
           refine⟨rfl,?_⟩
           walk_at "r"
           refine G6 hr ?_
           refine KP (ds:=(NF l.2).map .str) (AJ (hz1 z hz)) (K5 fun y hy=>SR hr (by simpa [NF] using hy)) ?_
           refine⟨_,rfl,rfl,rfl,fun _=>?_⟩
           walk_at "r"
           exact⟨rfl,rfl⟩
         rw[ZK]
         walk_at "r"
         have hfl:=yJ (fun z=>!decide (z∈NF l.2)) st
         refine DK (by rw[zX,zX];exact zN (show _<=200 by omega) (by decide)) ?_
         rw[← xI]
         walk_at "r"
         refine⟨rfl,by omega,OZ st l.2,kn++G7 l.2,_,_,_,by unfold OZ;rw[yY];omega,by rw[yY];omega,fun z hz=>?_,fun z hz=>?_,?_,rfl⟩
         · unfold OZ at hz
           rcases yW.mp hz with q | q
           · exact hz1 z (yL.mp q).1
           · exact hmz z q
         · rcases yW.mp hz with q | q
           · exact hz2 z q
           · exact hmz z q
         · rw[hI];unfold WL;rw[h1,h2];rfl
   · rintro ρ1 M1 ⟨rfl,_,st,kn,x4,x5,x6,_,_,_,_,hI,rfl⟩
     rw[zX,List.drop_of_length_le (by rw[zX];exact zR _)] at hI
     walk_at "r"
     exact fin _ true rfl hI
end
def O7:List Str:=["_law_numbers", "_law_found", "_law_number"]
def KF:List Str:=["_law_some", "_law_number"]
def KG:List (Option Nat):=[none,some 2]
theorem TC:KF.Nodup:=by decide +kernel
theorem O8:FnScope O7 ["_law_numbers"] (AB EU):=⟨rfl,rfl,rfl,by decide +kernel,rfl,by decide +kernel,by decide +kernel⟩
section
local macro_rules | `(tactic| walk_at "cs")=>`(tactic| first | exact @DY _ _ KF KG (AB EU) O7 (by decide +kernel) (by decide +kernel) rfl rfl)
theorem XE {f:Addr}{fd:FuncData}(F:Fun K "_law_sets" "_law_sets" EU f fd):FnOk P w K mg base CX0 1 f fd ["_law_numbers"] (spD K 1 K6):=by
 refine fnD F O8 fun cdv A outer s H E hr=>?_
 have hu:=hr.units
 have nd:=O8.nd
 have n0:=TC
 refine⟨_,by walk_at "b2", ?_⟩
 clear nd n0
 rintro xs M hl ⟨κ,rfl,hκ⟩
 have hn2:AG κ=κ.map fun n:Nat=>a4W (n:Int):=by unfold AG EY;rw[zD];rfl
 walk_at "r"
 refine D0 ?_
 walk_at "r"
 · refine HA ?_
   refine AX ?_
   walk_at "r"
   refine⟨fun k ρ1 M1=>M1=M/\∃x:Option DS,ρ1=[some (.d (.list (AG κ))),some (.d (.list ((C0 (κ.take k)).map chD))),x],⟨rfl,_,rfl⟩,?_,?_⟩
   · rintro k d ρ1 M1 hd ⟨rfl,x,rfl⟩
     rw[hn2,zF] at hd
     obtain⟨n,hn,rfl⟩:=Option.map_eq_some_iff.mp hd
     have hk:k < κ.length:=(yT.mp hn).1
     have htk:κ.take (k+1)=κ.take k++[n]:=by rw[a5Q,hn];rfl
     have hlk:(C0 (κ.take k)).length<=2048:=by
       rw[nR,a0J,a4Z (xR hk)]
       exact Nat.pow_le_pow_right (by decide) (show k<=11 by omega)
     walk_at "r"
     refine AD (AR 0) (by simp[KG]) ?_
     refine AX ?_
     walk_at "r"
     refine⟨by rw[zX];exact zQ hlk (by decide),fun _=>true,tP n,?_,?_⟩
     · intro d hd M'
       obtain⟨s,hs,rfl⟩:=zL.mp hd
       have hsl:=(ZN _ s hs).length_le
       rw[a0J] at hsl
       walk_at "dl"
       refine⟨rfl,?_⟩
       walk_at "dl"
       refine⟨rfl,rfl,fun _=>?_⟩
       walk_at "r"
       refine FX (as:=AG s) (by rw[BJ];exact zN (show _<=50 by simp;omega) (by decide)) ?_
       exact⟨rfl,rfl⟩
     rw[N1,nT]
     walk_at "r"
     refine DK (by rw[zX,zX,zX];exact zN (show _<=4096 by omega) (by decide)) ?_
     rw[← xI,← KR,← htk]
     walk_at "r"
     exact⟨rfl,_,rfl⟩
   · rintro ρ1 M1 ⟨rfl,x,rfl⟩
     rw[BJ,a5K]
     walk_at "r"
     refine⟨_,zT _,fun κ' e=>?_⟩
     simp only[List.cons.injEq,DS.d.injEq,PyData.list.injEq,and_true] at e
     obtain rfl:=HR e
     exact⟨rfl,rfl⟩
end
def cR:List Str:=["_law_script", "_law_book", "_law_place", "_law_standing", "_law_spare", "_law_pack", "_law_deed_here", "_law_told", "_law_going", "_law_lines_here", "_law_seen", "_law_out", "_law_rest"]
def aH:List Str:=["_law_k", "_law_lines_here", "_law_out"]
def TD:List (Option Nat):=[none,some 9,some 11]
theorem oB:aH.Nodup:=by decide +kernel
def aI:List Str:=["_law_number", "_law_out"]
def TF:List (Option Nat):=[none,some 11]
theorem oD:aI.Nodup:=by decide +kernel
theorem oE:FnScope cR ["_law_script"] (AB VA):=⟨rfl,rfl,rfl,by decide +kernel,rfl,by decide +kernel,by decide +kernel⟩
section
local macro_rules | `(tactic| walk_at "cs")=>`(tactic| first | exact @DY _ _ aH TD (AB VA) cR (by decide +kernel) (by decide +kernel) rfl rfl | exact @DY _ _ aI TF (AB VA) cR (by decide +kernel) (by decide +kernel) rfl rfl)
local macro_rules | `(tactic| walk_at "x")=>`(tactic| first | ((with_reducible show PS _ (.Assign [.Tuple ..] ..) _);exact @O9 _ _ _ _ _ _ (by walk_at "e") (by walk_at "g") (by rfl) (by rfl) (by rfl)) | ((with_reducible show PG _ (.Tuple ..) _);exact @RR _ K _ _ _ _ (5) rfl rfl (by walk_at "j") (by rfl) (by rfl)) | ((with_reducible show PG _ (.Tuple ..) _);exact @RR _ K _ _ _ _ (2) rfl rfl (by walk_at "j") (by rfl) (by rfl)) | ((with_reducible show PT _ (.Compare _ [.NotIn] ..) _);exact @CL _ _ _ _ _ _ _ _ (@N5 _ K rfl hu) (by walk_at "e") (by walk_at "e") (by with_unfolding_all rfl)) | ((with_reducible show PE _ (.Compare _ [.In] ..) _);exact @FC _ _ _ _ _ _ _ _ (@wS _ K rfl hu) (by walk_at "e") (by walk_at "e") (by with_unfolding_all rfl)))
local macro_rules | `(tactic| walk_at "y")=>`(tactic| first | ((with_reducible show PE _ (.Call (.Name (a0Q "list") _) ..) _);exact @HG _ _ _ _ _ _ _ _ _ (@kT _ K rfl) (by rfl) n_list a8V (by walk_at "a") (by decide) (by decide) (by rfl) (by rfl)) | ((with_reducible show PE _ (.Call (.Name (a0Q "list") _) [.Call ..] ..) _);exact @V7 _ _ _ _ _ _ _ _ hr.hd rfl n_range rfl n_list (by walk_at "a") (by rfl) (by rfl) (by rfl)))
theorem xB {f:Addr}{fd:FuncData}(F:Fun K "law" "law" VA f fd) (n_all:mg "all"=none) (n_len:mg "len"=none) (n_list:mg "list"=none) (n_range:mg "range"=none) (h__law_asked:Has P w K mg base "_law_asked" 4 ["_law_script"] (HX 8)) (h__law_deed:Has P w K mg base "_law_deed" 2 ["_law_pack", "_law_some", "_law_spare"] DC) (h__law_is_book:Has P w K mg base "_law_is_book" 2 ["_law_start_here", "_law_lines_here"] EG) (h__law_sets:Has P w K mg base "_law_sets" 1 ["_law_numbers"] K6) (h_put_in:Has P w K mg base "put_in" 11 ["book", "place", "hand", "deed"] NK):FnOk P w K mg base CX0 12 f fd ["_law_script"] (spD K 1 YU):=by
 refine fnD F oE fun cdv A outer s H E hr=>?_
 have hu:=hr.units
 have nd:=oE.nd
 have n0:=oB
 have n1:=oD
 refine⟨_,by walk_at "b2", ?_⟩
 clear nd n0 n1
 rintro xs M hl ⟨ns,rfl,hns,hbits⟩
 walk_at "r"
 first | refine sB ?_ | refine ds_asgLT ?_
 walk_at "r"
 refine WR hbits fun w ls k so sp p o hp ho hA=>?_
 refine⟨_,_,rfl,rfl,NI (NI (NI (NI (rZ ?_))))⟩
 have hg:=hA.d.good
 have hfew:=hA.d.few
 have hk:=hA.le
 have hzs:∀z∈so,AH z:=fun z hz=>hA.ok.1 z (zA _ hz)
 have hzp:∀z∈sp,AH z:=fun z hz=>hA.ok.1 z (zB _ hz)
 walk_at "wks"
 refine RH (fun ρ1 M1=>M1=M.put p o/\ρ1=[some (.d (.list (ns.map .int))),some (.d (AL w ls)),some (.d (.int (k:Nat))),some (.d (AQ so)),some (.d (AQ sp)),some (.loc p),none,none,none,none,none,none,none]/\(so≠[]∨sp≠[])) ?_ ?_
 · walk_at "wkd"
   refine AY (C9 hzs) rfl ?_
   rw[if_neg nft,BQ]
   cases he:so.isEmpty with
   | false=>
     walk_at "r"
     exact⟨rfl,rfl,.inl fun e=>by rw[e] at he;cases he⟩
   | true=>
     walk_at "wkd"
     refine AY (C9 hzp) rfl ?_
     rw[if_neg nft,BQ]
     cases he2:sp.isEmpty with
     | false=>
       walk_at "r"
       exact⟨rfl,rfl,.inr fun e=>by rw[e] at he2;cases he2⟩
     | true=>
       walk_at "r"
       exact⟨M,(zT M).put hp,rfl⟩
 rintro ρ0 M0 ⟨rfl,rfl,hne⟩
 walk_at "r"
 refine MD zU ho hA.ok hne fun D o1 hr ha hm ho1=>?_
 rw[yI]
 have hP:=hA.put hr ha hm
 have hh:AH (a0Q "me"):=SH _ (by simp)
 have hw:okN w:=fun t ht=>(hA.d.fine.2 t ht).1
 have h5:=hA.d.five
 have h8:=hA.few
 have hbk:=x9 hP hA.bk
 have hout:=j1 hP hh
 have hol:(E7 ls k D).length<=8:=zN (V3 _ _ _) (by rw[zX];exact h8)
 have rl:∀s:List Nat,((CG k ls.length).filter fun m=>!decide (m∈s)).length<=8:=fun s=>zN (yJ _ _) (by rw[ND];omega)
 have pl:∀s:List Nat,(AV ls ((CG k ls.length).filter fun m=>!decide (m∈s))).length<=8:=fun s=>by rw[SQ fun m hm=>(ES.mp hm).1.2];exact rl s
 have dsC:∀s:List Nat,dsL (ls.take k++[(a0Q "me", D)]++AV ls ((CG k ls.length).filter fun m=>!decide (m∈s)))=E2 ls k D++AV (dsL ls) ((CG k ls.length).filter fun m=>!decide (m∈s)):=fun s=>by
   rw[← rN]
   unfold dsL
   rw[xI,xI,a7V]
   rfl
 have pr:∀s:List Nat,∀l∈ls.take k++[(a0Q "me", D)]++AV ls ((CG k ls.length).filter fun m=>!decide (m∈s)),l.2.real:=fun s l hl=>by
   rcases yW.mp hl with q | q
   · rcases yW.mp q with q | q
     · exact hg.real l (a8K q)
     · rw[List.mem_singleton.mp q];exact hr
   · exact hg.real l (ZF q)
 walk_at "r"
 refine JU ?_
 walk_at "r"
 refine cG hP hh ?_
 walk_at "r"
 refine AA (ds:=[wD w,BC ls]) (d:=BC ls) rfl ?_
 walk_at "r"
 refine MU ?_
 walk_at "r"
 refine HA ?_
 refine AX ?_
 walk_at "r"
 refine V8 ?_
 walk_at "r"
 refine KJ ?_
 rw[zX]
 walk_at "r"
 refine⟨(k:Int),(ls.length:Int),rfl,⟨by omega,by omega,by omega,by omega⟩,by omega,?_⟩
 rw[ZH]
 walk_at "r"
 refine iZ (by rw[ND];omega) ?_
 refine⟨_,rfl,fun j ρ1 M1=>M1=M.put p o1/\∃x y:Option DS,ρ1=[some (.d (.list (ns.map .int))),some (.d (AL w ls)),some (.d (.int (k:Nat))),some (.d (AQ so)),some (.d (AQ sp)),some (.loc p),some (.d D.d),some (.d (AL w (G9 ls k (a0Q "me") D))),some (.d (chD (E7 ls k D))),some (.d (.list (ls.map AU))),some (.d (.bool (decide (E7 ls k D∈(C0 (CG k ls.length)).take j)))),x,y],⟨rfl,_,_,by rw[List.take_zero];rfl⟩,?_,?_⟩
 · rintro j d ρ1 M1 hd ⟨rfl,x,y,rfl⟩
   rw[zF] at hd
   obtain⟨s,hs,rfl⟩:=Option.map_eq_some_iff.mp hd
   have hsm:=yN hs
   have hsub:=ZN _ s hsm
   have hsk:∀m∈s,k<=m:=fun m hm=>(D5.mp (hsub.subset hm)).1
   have htk:(C0 (CG k ls.length)).take (j+1)=(C0 (CG k ls.length)).take j++[s]:=by rw[a5Q,hs];rfl
   have hmem:decide (E7 ls k D∈(C0 (CG k ls.length)).take (j+1))=(decide (E7 ls k D∈(C0 (CG k ls.length)).take j)||decide (s=E7 ls k D)):=by
     rw[htk,a3Z,b6K,decide_eq_true_iff,decide_eq_true_iff,decide_eq_true_iff,yW,a3Q]
     exact or_congr Iff.rfl eq_comm
   walk_at "r"
   refine AD (AR 0) (by simp[TD,TF]) ?_
   refine rM ?_
   walk_at "r"
   refine KJ ?_
   rw[zX]
   walk_at "r"
   refine⟨(k:Int),(ls.length:Int),rfl,⟨by omega,by omega,by omega,by omega⟩,?_⟩
   rw[nU]
   refine⟨by rw[BJ,ND];exact zQ (show _<=50 by omega) (by decide),cCh s,fLn ls,?_,?_⟩
   · intro d hd M'
     obtain⟨i,hi,rfl⟩:=zL.mp hd
     obtain⟨m,hm,rfl⟩:=CQ.mp hi
     obtain⟨l,hlk,hlm,hll,hld⟩:=QX (D5.mp hm).2
     walk_at "dl"
     refine⟨rfl,?_⟩
     walk_at "r"
     refine KP (ds:=AG s) rfl (CU _) ?_
     refine⟨_,rfl,rfl,rfl,fun _=>?_⟩
     walk_at "r"
     refine D6 (ds:=ls.map AU) (AC hll) ?_
     refine⟨?_,rfl⟩
     show _=DS.d ((ls.map AU).getD ((m:Int)).toNat .none)
     rw[a4Q,yU,hll];rfl
   rw[sC _ (fun m hm=>(D5.mp hm).2)]
   walk_at "r"
   refine AA (ds:=[wD w,BC ls]) (d:=wD w) rfl ?_
   walk_at "r"
   refine CJ ?_
   rw[OI,← a7V]
   walk_at "r"
   refine D0 ?_
   walk_at "r"
   refine DK (a:=(ls.take k).map AU) (b:=[AU (a0Q "me", D)]) (by rw[zX,a0J];exact zN (show _<=50 by simp;omega) (by decide)) ?_
   walk_at "r"
   refine DK (a:=(ls.take k).map AU++[AU (a0Q "me", D)]) (b:=(AV ls ((CG k ls.length).filter fun m=>!decide (m∈s))).map AU) (by rw[yY,zX,a0J,zX];exact zN (show _<=50 by have:=pl s;simp;omega) (by decide)) ?_
   rw[show(ls.take k).map AU++[AU (a0Q "me", D)]++(AV ls ((CG k ls.length).filter fun m=>!decide (m∈s))).map AU=(ls.take k++[(a0Q "me", D)]++AV ls ((CG k ls.length).filter fun m=>!decide (m∈s))).map AU by rw[xI,xI];rfl]
   walk_at "r"
   refine PJ (C:=ls.take k++[(a0Q "me", D)]++AV ls ((CG k ls.length).filter fun m=>!decide (m∈s))) hw (by omega) (pr s) (by rw[yY,yY,a0J];have:=pl s;simp;omega) ?_
   rw[dsC]
   cases hb:Q8 (BD w) (BD w) (E2 ls k D++AV (dsL ls) ((CG k ls.length).filter fun m=>!decide (m∈s))) with
   | false=>
     walk_at "r"
     exact⟨rfl,_,_,by rw[hmem,decide_eq_false (show ¬s=E7 ls k D from fun e=>by subst e;exact nft (hb.symm.trans (ST.mpr hbk))),Bool.or_false];rfl⟩
   | true=>
     have least:=j2 hP hA.bk hsk (ST.mp hb)
     walk_at "r"
     refine AD (AR 0) (by simp[TD,TF]) ?_
     refine CM ?_
     walk_at "r"
     refine⟨by rw[show((EY (E7 ls k D)).map a4W).length=(E7 ls k D).length from BJ _];exact zQ hol (by decide),fun _=>true,rL s,?_,?_⟩
     · intro d hd M'
       obtain⟨i,hi,rfl⟩:=zL.mp hd
       walk_at "dl"
       refine⟨rfl,?_⟩
       walk_at "dl"
       refine⟨rfl,rfl,fun _=>?_⟩
       walk_at "r"
       refine KP (ds:=AG s) rfl (CU _) ?_
       exact⟨rfl,rfl⟩
     rw[N1,show((EY (E7 ls k D)).map a4W).map (rL s)=_ from x8 s (E7 ls k D) least]
     walk_at "r"
     refine aW ?_
     rw[cF]
     cases hseen:decide (E7 ls k D∈(C0 (CG k ls.length)).take j) with
     | true=>
       walk_at "r"
       exact⟨rfl,_,_,by rw[hmem,hseen,Bool.true_or];rfl⟩
     | false=>
       walk_at "r"
       refine AY (CU s) (CU _) ?_
       rw[if_neg nft,show a0X (chD s) (chD (E7 ls k D))=_ from wZ _ _]
       walk_at "r"
       exact⟨rfl,_,_,by rw[hmem,hseen,Bool.false_or];rfl⟩
 · rintro ρ1 M1 ⟨rfl,x,y,rfl⟩
   rw[zX,a5K,decide_eq_true sF]
   walk_at "r"
   refine AA (ds:=[wD w,BC (G9 ls k (a0Q "me") D)]) (d:=wD w) rfl ?_
   walk_at "r"
   refine AA (ds:=[wD w,BC (G9 ls k (a0Q "me") D)]) (d:=BC (G9 ls k (a0Q "me") D)) rfl ?_
   walk_at "r"
   refine MU ?_
   walk_at "r"
   refine PJ (C:=(G9 ls k (a0Q "me") D)) hw (by omega) (fun l hl=>(hout l hl).2) (by show(ls.take k++[(a0Q "me", D)]++AV ls (J3 ls k D)).length<=60;rw[yY,yY,a0J];have:=pl (E7 ls k D);rw[show((CG k ls.length).filter fun m=>!decide (m∈E7 ls k D))=J3 ls k D from rfl] at this;simp;omega) ?_
   rw[show dsL (G9 ls k (a0Q "me") D)=E2 ls k D++AV (dsL ls) (J3 ls k D) from dsC (E7 ls k D),ST.mpr hbk]
   exact⟨M,(zT M).put hp,rfl⟩
end
end
end DL
namespace DL
open PySem PySem.Spec L2
local macro_rules | `(tactic| walk_at "b1")=>`(tactic| exact fun _ _ _ _ _ _ us hl=>match us,hl with | [_],_=>rfl)
local macro_rules | `(tactic| walk_at "b2")=>`(tactic| exact fun _ _ _ _ _ _ us hl=>match us,hl with | [_,_],_=>rfl)
local macro_rules | `(tactic| walk_at "b3")=>`(tactic| exact fun _ _ _ _ _ _ us hl=>match us,hl with | [_,_,_],_=>rfl)
local macro_rules | `(tactic| walk_at "b4")=>`(tactic| exact fun _ _ _ _ _ _ us hl=>match us,hl with | [_,_,_,_],_=>rfl)
theorem xC {l:PySem.W.OpenLaw}{w:World}{K:Frg}{h:Heap}{mg:Str->Option Value}{fa:Addr}{a_FORMS:Addr}{ep_FORMS:Nat}{tk_FORMS_0 tv_FORMS_0:Tok}{tk_FORMS_1 tv_FORMS_1:Tok}{tk_FORMS_2 tv_FORMS_2:Tok}{tk_FORMS_3 tv_FORMS_3:Tok}{tk_FORMS_4 tv_FORMS_4:Tok}{tk_FORMS_5 tv_FORMS_5:Tok}{tk_FORMS_6 tv_FORMS_6:Tok}{t_LAST_PLACE:Tok}{t_LETTERS:Tok}{t_LONGEST_NAME:Tok}
   (X:K.In h) (G:h.Ns mainGlobals mg) (hfa:mg "law"=some (.ref fa))
   (b0:FnIn K "is_whole" IS)
   (b1:FnIn K "is_name" HY)
   (b2:FnIn K "is_within" GO)
   (b3:FnIn K "is_place" IT)
   (b4:FnIn K "form_of" KS)
   (b5:FnIn K "fits" WU)
   (b6:FnIn K "names_in" IU)
   (b7:FnIn K "is_deed" HZ)
   (b8:FnIn K "made_by" KU)
   (b9:FnIn K "ended_by" IV)
   (b10:FnIn K "must_stand" E3)
   (b11:FnIn K "thing_of" IW)
   (b12:FnIn K "by_names" GA)
   (b13:FnIn K "rising_by_names" BR)
   (b14:FnIn K "add_count" GP)
   (b15:FnIn K "refuse_undoable" CN)
   (b16:FnIn K "change" NM)
   (b17:FnIn K "done" WV)
   (b18:FnIn K "back_deed" GQ)
   (b19:FnIn K "walked" NN)
   (b20:FnIn K "gone" WW)
   (b21:FnIn K "deeds_of" GB)
   (b22:FnIn K "makers" IA)
   (b23:FnIn K "told_on" KW)
   (b24:FnIn K "book_world" FL)
   (b25:FnIn K "book_of" IB)
   (b26:FnIn K "is_number" GR)
   (b27:FnIn K "needs" NO)
   (b28:FnIn K "asking_for" E4)
   (b29:FnIn K "chains_by_ends" BH)
   (b30:FnIn K "goes" WX)
   (b31:FnIn K "put_in" K9)
   (b32:FnIn K "_law_mixed" FM)
   (b33:FnIn K "_law_take" GS)
   (b34:FnIn K "_law_names" CV)
   (b35:FnIn K "_law_deed" ET)
   (b36:FnIn K "_law_after" CW)
   (b37:FnIn K "_law_start" E5)
   (b38:FnIn K "_law_lines" FN)
   (b39:FnIn K "_law_begun" FO)
   (b40:FnIn K "_law_made" GT)
   (b41:FnIn K "_law_ended" FP)
   (b42:FnIn K "_law_wanted" EI)
   (b43:FnIn K "_law_is_book" B6)
   (b44:FnIn K "_law_asked" CY)
   (b45:FnIn K "_law_sets" EU)
   (b46:FnIn K "law" VA)
   (z_all:a2Q K mainGlobals "all"=some none)
   (z_any:a2Q K mainGlobals "any"=some none)
   (z_bool:a2Q K mainGlobals "bool"=some none)
   (z_divmod:a2Q K mainGlobals "divmod"=some none)
   (z_enumerate:a2Q K mainGlobals "enumerate"=some none)
   (z_int:a2Q K mainGlobals "int"=some none)
   (z_isinstance:a2Q K mainGlobals "isinstance"=some none)
   (z_len:a2Q K mainGlobals "len"=some none)
   (z_list:a2Q K mainGlobals "list"=some none)
   (z_range:a2Q K mainGlobals "range"=some none)
   (z_sorted:a2Q K mainGlobals "sorted"=some none)
   (z_str:a2Q K mainGlobals "str"=some none)
   (z_sum:a2Q K mainGlobals "sum"=some none)
   (z_tuple:a2Q K mainGlobals "tuple"=some none)
   (z_zip:a2Q K mainGlobals "zip"=some none)
   (y_FORMS:a2Q K mainGlobals "FORMS"=some (some (.ref a_FORMS)))
   (x_FORMS:K.lookup a_FORMS=some { cls:=.type "dict", data:=.dict #[{ hash:=a9K w.params (a0Q "put"),key:=.str (a0Q "put") tk_FORMS_0,val:=.str (a0Q "npk") tv_FORMS_0 },{ hash:=a9K w.params (a0Q "take"),key:=.str (a0Q "take") tk_FORMS_1,val:=.str (a0Q "n") tv_FORMS_1 },{ hash:=a9K w.params (a0Q "move"),key:=.str (a0Q "move") tk_FORMS_2,val:=.str (a0Q "np") tv_FORMS_2 },{ hash:=a9K w.params (a0Q "count"),key:=.str (a0Q "count") tk_FORMS_3,val:=.str (a0Q "nk") tv_FORMS_3 },{ hash:=a9K w.params (a0Q "name"),key:=.str (a0Q "name") tk_FORMS_4,val:=.str (a0Q "nn") tv_FORMS_4 },{ hash:=a9K w.params (a0Q "split"),key:=.str (a0Q "split") tk_FORMS_5,val:=.str (a0Q "nnpk") tv_FORMS_5 },{ hash:=a9K w.params (a0Q "join"),key:=.str (a0Q "join") tk_FORMS_6,val:=.str (a0Q "nn") tv_FORMS_6 }] ep_FORMS })
   (s_FORMS:(a_FORMS==sysModules)=false)
   (y_LAST_PLACE:a2Q K mainGlobals "LAST_PLACE"=some (some (.int 999 t_LAST_PLACE)))
   (y_LETTERS:a2Q K mainGlobals "LETTERS"=some (some (.str "abcdefghijklmnopqrstuvwxyz" t_LETTERS)))
   (y_LONGEST_NAME:a2Q K mainGlobals "LONGEST_NAME"=some (some (.int 8 t_LONGEST_NAME))) :
   ∃fd:FuncData,(∀(s:Shared) (v:Value),BindsTo s fd ⟨[v],[]⟩ [("_law_script", v)])/\∀base:Heap,K.In base->base.Ns mainGlobals mg->FnOk l.prog w K mg base CX0 12 fa fd ["_law_script"] (spD K 1 YU):=by
 obtain⟨f0,d0,A0⟩:=b0.at X G
 obtain⟨f1,d1,A1⟩:=b1.at X G
 obtain⟨f2,d2,A2⟩:=b2.at X G
 obtain⟨f3,d3,A3⟩:=b3.at X G
 obtain⟨f4,d4,A4⟩:=b4.at X G
 obtain⟨f5,d5,A5⟩:=b5.at X G
 obtain⟨f6,d6,A6⟩:=b6.at X G
 obtain⟨f7,d7,A7⟩:=b7.at X G
 obtain⟨f8,d8,A8⟩:=b8.at X G
 obtain⟨f9,d9,A9⟩:=b9.at X G
 obtain⟨f10,d10,A10⟩:=b10.at X G
 obtain⟨f11,d11,A11⟩:=b11.at X G
 obtain⟨f12,d12,A12⟩:=b12.at X G
 obtain⟨f13,d13,A13⟩:=b13.at X G
 obtain⟨f14,d14,A14⟩:=b14.at X G
 obtain⟨f15,d15,A15⟩:=b15.at X G
 obtain⟨f16,d16,A16⟩:=b16.at X G
 obtain⟨f17,d17,A17⟩:=b17.at X G
 obtain⟨f18,d18,A18⟩:=b18.at X G
 obtain⟨f19,d19,A19⟩:=b19.at X G
 obtain⟨f20,d20,A20⟩:=b20.at X G
 obtain⟨f21,d21,A21⟩:=b21.at X G
 obtain⟨f22,d22,A22⟩:=b22.at X G
 obtain⟨f23,d23,A23⟩:=b23.at X G
 obtain⟨f24,d24,A24⟩:=b24.at X G
 obtain⟨f25,d25,A25⟩:=b25.at X G
 obtain⟨f26,d26,A26⟩:=b26.at X G
 obtain⟨f27,d27,A27⟩:=b27.at X G
 obtain⟨f28,d28,A28⟩:=b28.at X G
 obtain⟨f29,d29,A29⟩:=b29.at X G
 obtain⟨f30,d30,A30⟩:=b30.at X G
 obtain⟨f31,d31,A31⟩:=b31.at X G
 obtain⟨f32,d32,A32⟩:=b32.at X G
 obtain⟨f33,d33,A33⟩:=b33.at X G
 obtain⟨f34,d34,A34⟩:=b34.at X G
 obtain⟨f35,d35,A35⟩:=b35.at X G
 obtain⟨f36,d36,A36⟩:=b36.at X G
 obtain⟨f37,d37,A37⟩:=b37.at X G
 obtain⟨f38,d38,A38⟩:=b38.at X G
 obtain⟨f39,d39,A39⟩:=b39.at X G
 obtain⟨f40,d40,A40⟩:=b40.at X G
 obtain⟨f41,d41,A41⟩:=b41.at X G
 obtain⟨f42,d42,A42⟩:=b42.at X G
 obtain⟨f43,d43,A43⟩:=b43.at X G
 obtain⟨f44,d44,A44⟩:=b44.at X G
 obtain⟨f45,d45,A45⟩:=b45.at X G
 obtain⟨f46,d46,A46⟩:=b46.at X G
 have e:=hfa.symm.trans A46.mg_
 cases e
 have n_all:=a1K X G z_all
 have n_any:=a1K X G z_any
 have n_bool:=a1K X G z_bool
 have n_divmod:=a1K X G z_divmod
 have n_enumerate:=a1K X G z_enumerate
 have n_int:=a1K X G z_int
 have n_isinstance:=a1K X G z_isinstance
 have n_len:=a1K X G z_len
 have n_list:=a1K X G z_list
 have n_range:=a1K X G z_range
 have n_sorted:=a1K X G z_sorted
 have n_str:=a1K X G z_str
 have n_sum:=a1K X G z_sum
 have n_tuple:=a1K X G z_tuple
 have n_zip:=a1K X G z_zip
 have g_FORMS:∃a,mg "FORMS"=some (.ref a)/\GDict w K a HK:=⟨_,b8W X G y_FORMS,s_FORMS,by decide +kernel,_,_,x_FORMS,rfl,⟨_,rfl⟩,⟨_,rfl⟩,rfl,⟨_,rfl⟩,⟨_,rfl⟩,rfl,⟨_,rfl⟩,⟨_,rfl⟩,rfl,⟨_,rfl⟩,⟨_,rfl⟩,rfl,⟨_,rfl⟩,⟨_,rfl⟩,rfl,⟨_,rfl⟩,⟨_,rfl⟩,rfl,⟨_,rfl⟩,⟨_,rfl⟩,trivial⟩
 have g_LAST_PLACE:∃t,mg "LAST_PLACE"=some (.int 999 t):=⟨_,b8W X G y_LAST_PLACE⟩
 have g_LETTERS:∃t,mg "LETTERS"=some (.str "abcdefghijklmnopqrstuvwxyz" t):=⟨_,b8W X G y_LETTERS⟩
 have g_LONGEST_NAME:∃t,mg "LONGEST_NAME"=some (.int 8 t):=⟨_,b8W X G y_LONGEST_NAME⟩
 refine⟨d46,fun s v=>?_,fun base _ _=>?_⟩
 · obtain⟨oc,od,kV,doc,pm,an,cdv,ct,osl,e,_,_⟩:=A46.fn.ex
   subst e
   exact .of_eq rfl
 have h_is_whole:Has l.prog w K mg base "is_whole" 1 ["thing"] IF:=A0.has (ZV A0.fn n_bool n_int n_isinstance) (by walk_at "b1")
 have h_is_name:Has l.prog w K mg base "is_name" 1 ["thing"] KK:=A1.has (cH A1.fn n_all n_isinstance n_len n_str g_LETTERS g_LONGEST_NAME) (by walk_at "b1")
 have h_is_within:Has l.prog w K mg base "is_within" 2 ["thing", "low", "high"] CO:=A2.has (WZ A2.fn h_is_whole) (by walk_at "b3")
 have h_is_place:Has l.prog w K mg base "is_place" 3 ["thing"] LZ:=A3.has (ZX A3.fn g_LAST_PLACE h_is_within) (by walk_at "b1")
 have h_form_of:Has l.prog w K mg base "form_of" 1 ["word"] KL:=A4.has (cJ A4.fn n_isinstance n_str g_FORMS) (by walk_at "b1")
 have h_fits:Has l.prog w K mg base "fits" 4 ["sign", "part"] bR:=A5.has (sI A5.fn h_is_name h_is_place h_is_whole) (by walk_at "b2")
 have h_names_in:Has l.prog w K mg base "names_in" 2 ["deed"] G1:=A6.has (ZZ A6.fn h_form_of) (by walk_at "b1")
 have h_is_deed:Has l.prog w K mg base "is_deed" 5 ["thing"] HL:=A7.has (cK A7.fn n_all n_isinstance n_len n_tuple n_zip h_fits h_form_of h_names_in) (by walk_at "b1")
 have h_made_by:Has l.prog w K mg base "made_by" 1 ["deed"] FR:=A8.has (cM A8.fn ) (by walk_at "b1")
 have h_ended_by:Has l.prog w K mg base "ended_by" 1 ["deed"] MB:=A9.has (a7 A9.fn ) (by walk_at "b1")
 have h_must_stand:Has l.prog w K mg base "must_stand" 3 ["deed"] FH:=A10.has (TN A10.fn n_tuple h_made_by h_names_in) (by walk_at "b1")
 have h_thing_of:Has l.prog w K mg base "thing_of" 1 ["world", "name"] HU:=A11.has (aF A11.fn ) (by walk_at "b2")
 have h_by_names:Has l.prog w K mg base "by_names" 1 ["world"] D8:=A12.has (a8 A12.fn ) (by walk_at "b1")
 have h_rising_by_names:Has l.prog w K mg base "rising_by_names" 1 ["things"] B7:=A13.has (MK A13.fn n_sorted n_tuple) (by walk_at "b1")
 have h_add_count:Has l.prog w K mg base "add_count" 1 ["things", "name", "more"] EN:=A14.has (X3 A14.fn ) (by walk_at "b3")
 have h_refuse_undoable:Has l.prog w K mg base "refuse_undoable" 6 ["things", "deed"] B8:=A15.has (MM A15.fn h_is_deed h_made_by h_names_in) (by walk_at "b2")
 have h_change:Has l.prog w K mg base "change" 2 ["things", "deed"] JY:=A16.has (j5 A16.fn h_add_count) (by walk_at "b2")
 have h_done:Has l.prog w K mg base "done" 7 ["world", "deed"] OP:=A17.has (sK A17.fn h_by_names h_change h_refuse_undoable h_rising_by_names) (by walk_at "b2")
 have h_back_deed:Has l.prog w K mg base "back_deed" 7 ["world", "deed"] EO:=A18.has (X5 A18.fn h_by_names h_refuse_undoable) (by walk_at "b2")
 have h_walked:Has l.prog w K mg base "walked" 8 ["world", "row"] K4:=A19.has (j7 A19.fn n_enumerate h_back_deed h_by_names h_done h_rising_by_names) (by walk_at "b2")
 have h_gone:Has l.prog w K mg base "gone" 9 ["world", "row"] SO:=A20.has (sM A20.fn h_walked) (by walk_at "b2")
 have h_deeds_of:Has l.prog w K mg base "deeds_of" 1 ["book"] FU:=A21.has (a9 A21.fn n_tuple) (by walk_at "b1")
 have h_makers:Has l.prog w K mg base "makers" 2 ["book"] HS:=A22.has (j8 A22.fn n_enumerate h_deeds_of h_made_by) (by walk_at "b1")
 have h_told_on:Has l.prog w K mg base "told_on" 8 ["world", "book", "hand", "deed"] K7:=A23.has (cQ A23.fn h_done h_is_deed h_is_name h_made_by h_makers h_thing_of) (by walk_at "b4")
 have h_book_world:Has l.prog w K mg base "book_world" 10 ["book"] DZ:=A24.has (TV A24.fn h_deeds_of h_gone) (by walk_at "b1")
 have h_book_of:Has l.prog w K mg base "book_of" 1 ["book", "numbers"] ER:=A25.has (cO A25.fn n_tuple) (by walk_at "b2")
 have h_is_number:Has l.prog w K mg base "is_number" 3 ["book", "thing"] DD:=A26.has (X7 A26.fn n_len h_is_within) (by walk_at "b2")
 have h_needs:Has l.prog w K mg base "needs" 4 ["book", "number"] N9:=A27.has (o9 A27.fn n_sorted n_tuple h_is_number h_makers h_must_stand) (by walk_at "b2")
 have h_asking_for:Has l.prog w K mg base "asking_for" 4 ["book", "numbers", "name"] NE:=A28.has (TX A28.fn n_tuple h_must_stand) (by walk_at "b3")
 have h_chains_by_ends:Has l.prog w K mg base "chains_by_ends" 5 ["book", "struck"] (SB mY):=A29.has (NW A29.fn n_len n_range h_is_number h_needs) (by walk_at "b2")
 have h_goes:Has l.prog w K mg base "goes" 6 ["book", "struck"] (SB mZ):=A30.has (sO A30.fn n_sorted n_tuple h_chains_by_ends) (by walk_at "b2")
 have h_put_in:Has l.prog w K mg base "put_in" 11 ["book", "place", "hand", "deed"] NK:=A31.has (j9 A31.fn n_len n_list n_range h_asking_for h_book_of h_book_world h_ended_by h_goes h_is_within h_told_on) (by walk_at "b4")
 have h__law_mixed:Has l.prog w K mg base "_law_mixed" 1 ["_law_cell"] C6:=A32.has (U0 A32.fn ) (by walk_at "b1")
 have h__law_take:Has l.prog w K mg base "_law_take" 1 ["_law_pack", "_law_size"] BE:=A33.has (XA A33.fn n_divmod) (by walk_at "b2")
 have h__law_names:Has l.prog w K mg base "_law_names" 2 ["_law_pack", "_law_amount"] DO:=A34.has (TY A34.fn n_range h__law_take) (by walk_at "b2")
 have h__law_deed:Has l.prog w K mg base "_law_deed" 2 ["_law_pack", "_law_some", "_law_spare"] DC:=A35.has (XB A35.fn n_int n_len h__law_take) (by walk_at "b3")
 have h__law_after:Has l.prog w K mg base "_law_after" 1 ["_law_deed_here", "_law_some", "_law_spare"] DW:=A36.has (U1 A36.fn ) (by walk_at "b3")
 have h__law_start:Has l.prog w K mg base "_law_start" 2 ["_law_pack", "_law_names_here", "_law_amount"] DX:=A37.has (U2 A37.fn n_range n_sorted n_tuple h__law_take) (by walk_at "b3")
 have h__law_lines:Has l.prog w K mg base "_law_lines" 3 ["_law_some", "_law_spare", "_law_cells"] HW:=A38.has (U4 A38.fn h__law_after h__law_deed h__law_mixed h__law_take) (by walk_at "b3")
 have h__law_begun:Has l.prog w K mg base "_law_begun" 3 ["_law_head"] HV:=A39.has (U6 A39.fn h__law_mixed h__law_names h__law_start h__law_take) (by walk_at "b1")
 have h__law_made:Has l.prog w K mg base "_law_made" 1 ["_law_deed_here"] NG:=A40.has (XD A40.fn ) (by walk_at "b1")
 have h__law_ended:Has l.prog w K mg base "_law_ended" 1 ["_law_deed_here"] KQ:=A41.has (U8 A41.fn ) (by walk_at "b1")
 have h__law_wanted:Has l.prog w K mg base "_law_wanted" 1 ["_law_deed_here"] MJ:=A42.has (TB A42.fn ) (by walk_at "b1")
 have h__law_is_book:Has l.prog w K mg base "_law_is_book" 2 ["_law_start_here", "_law_lines_here"] EG:=A43.has (QK A43.fn n_any n_list h__law_ended h__law_made h__law_wanted) (by walk_at "b2")
 have h__law_asked:Has l.prog w K mg base "_law_asked" 4 ["_law_script"] (HX 8):=A44.has (U9 A44.fn n_len n_list n_sum n_tuple h__law_begun h__law_ended h__law_lines h__law_made h__law_mixed h__law_take) (by walk_at "b1")
 have h__law_sets:Has l.prog w K mg base "_law_sets" 1 ["_law_numbers"] K6:=A45.has (XE A45.fn ) (by walk_at "b1")
 exact xB A46.fn n_all n_len n_list n_range h__law_asked h__law_deed h__law_is_book h__law_sets h_put_in
theorem xD {K:Frg}{H:Hp}{a:Addr}{ns:List Int}(hl:ns.length<=63) (hb:∀i∈ns,xJ i<=2 ^ 20) (hS:SqL K H a (ns.map V.int)):spD K 1 YU [.ref a] H (fun v _=>v = .bl true) fun _ _ _=>False:=by
 refine⟨[.d (.list (ns.map .int))],fun _=>none,rfl,(fun a o e=>nomatch e),⟨.ref a,[],rfl,?_,rfl⟩,⟨ns,rfl,hl,hb⟩,fun x M' v H' post st oa si=>?_⟩
 · unfold SI DV
   refine⟨a,ns.map V.int,rfl,?_,EQ⟩
   rcases hS with h | h
   · exact .inl ⟨fun w=>w rfl,h⟩
   · exact .inr h
 · have e:x = .d (.bool true):=post
   subst e
   exact tF si
theorem A05 {l:PySem.W.OpenLaw}{q:Program}{loose:List Str}{XP:(Str->Option Value)->Heap->Prop}{YP:World->Heap->Prop}{d:DefRec}{K:Params->Frg}(hn:l.most=some 63) (hdf:d.params.defaults=[])
   (hY:∀(w:World) (h:Heap),YP w h->(K w.params).In h)
   (F:∀(w:World) (mg:Str->Option Value) (fa:Addr) (h:Heap),(K w.params).In h->h.Ns mainGlobals mg->mg d.name=some (.ref fa) ->
     ∃fd:FuncData,(∀(s:Shared) (u:Value),BindsTo s fd ⟨[u],[]⟩ [("_law_script", u)])/\∀base:Heap,(K w.params).In base->base.Ns mainGlobals mg->FnOk l.prog w (K w.params) mg base CX0 12 fa fd ["_law_script"] (spD (K w.params) 1 YU)) :
   PySem.W.WalkO q loose XP YP l.row.toRowW d [] (fun f vs=>PySem.call f vs):=
 L2.l9 (n:=63) (k:=12) (x:= "_law_script") (CX:=fun _=>CX0) (sp:=fun w=>spD (K w.params) 1 YU) hn (by decide) hdf ⟨rfl,by decide,by decide⟩ hY F (fun _ _ a ns hl hb _ hS=>xD hl hb hS) fun _ _ _ _ _ z=>z
end DL
open PySem PySem.W PyProof.Rows
set_option maxRecDepth 100000 in
set_option maxHeartbeats 0 in
theorem PySem.Challenge.cw_struckdeeds_k55_whole_the_least_that_goe_holds : PySem.Challenge.rw_struckdeeds_k55_whole_the_least_that_goe.Holds := by
 w_on
 refine PySem.W.holds_law DL.hS fun said=>?_
 refine PySem.W.holds_open (q:=DL.hV) (loose:=[a0Q "FORMS"]) (Xt:=(fun s=>PySem.W.xlAt DL.hV [] s&&PySem.W.recOk (b3Q (b1Q (b3X PySem.Challenge.rw_struckdeeds_k55_whole_the_least_that_goe))) s)) (XP:=PySem.W.XL DL.hV []) (Yf:=b7Q (a6Q DL.hK DL.hA DL.hE)) (Ya:=b6V (a6Q DL.hK DL.hA DL.hE)) (YP:=PySem.W.Hook.says (a6Q DL.hK DL.hA DL.hE)) (N:=6048) DL.hL (PySem.W.Hook.of (a6Q DL.hK DL.hA DL.hE)) (PySem.W.Hook.keeps (a6Q DL.hK DL.hA DL.hE)) (fun s e=>PySem.W.xl_of s (Bool.and_eq_true_iff.mp e).1) PySem.W.XL.keeps (by rfl) (by rfl) (by rfl) (fun s e=>PySem.W.recFacts_of (Bool.and_eq_true_iff.mp e).2) rfl said (by decide +kernel) ⟨rfl,rfl,rfl,rfl,rfl,by decide +kernel⟩ ?hw ?hc
 (case hw=>w_witness2)
 k_fill
 refine DL.A05 (l:=PySem.Challenge.rw_struckdeeds_k55_whole_the_least_that_goe) rfl rfl (fun w h Y=>PySem.W.kIn_of Y) ?F
 case F=>
   intro w mg fa h KX G hmg
   refine' DL.xC KX G hmg ?b0 ?b1 ?b2 ?b3 ?b4 ?b5 ?b6 ?b7 ?b8 ?b9 ?b10 ?b11 ?b12 ?b13 ?b14 ?b15 ?b16 ?b17 ?b18 ?b19 ?b20 ?b21 ?b22 ?b23 ?b24 ?b25 ?b26 ?b27 ?b28 ?b29 ?b30 ?b31 ?b32 ?b33 ?b34 ?b35 ?b36 ?b37 ?b38 ?b39 ?b40 ?b41 ?b42 ?b43 ?b44 ?b45 ?b46 ?z_all ?z_any ?z_bool ?z_divmod ?z_enumerate ?z_int ?z_isinstance ?z_len ?z_list ?z_range ?z_sorted ?z_str ?z_sum ?z_tuple ?z_zip ?y_FORMS ?x_FORMS ?s_FORMS ?y_LAST_PLACE ?y_LETTERS ?y_LONGEST_NAME
   all_goals (first | (refine' DL.sG ?fa ?fl ?fc ?fk;(case fa=>k_is);(case fl=>k_is);(case fc=>k_is);(case fk=>k_is)) | skip)
   (case z_all=>k_is)
   (case z_any=>k_is)
   (case z_bool=>k_is)
   (case z_divmod=>k_is)
   (case z_enumerate=>k_is)
   (case z_int=>k_is)
   (case z_isinstance=>k_is)
   (case z_len=>k_is)
   (case z_list=>k_is)
   (case z_range=>k_is)
   (case z_sorted=>k_is)
   (case z_str=>k_is)
   (case z_sum=>k_is)
   (case z_tuple=>k_is)
   (case z_zip=>k_is)
   (case y_FORMS=>k_is)
   (case x_FORMS=>k_is)
   (case s_FORMS=>decide)
   (case y_LAST_PLACE=>k_is)
   (case y_LETTERS=>k_is)
   (case y_LONGEST_NAME=>k_is)
#print axioms PySem.Challenge.cw_struckdeeds_k55_whole_the_least_that_goe_holds
