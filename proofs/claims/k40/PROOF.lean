import PyProof.Rows.All
import Wide.All
import OpenK.AllK
import Wide.FinOn
import Lean
import PyProof.EqAt
import PyProof.EqKinds
import PyProof.TupleCall
import KE.KRevIter
import PyProof.P3In
import PyProof.SumAnyB
import PyProof.NeKinds
import KE.KEqDict
import PyProof.ListRange
import PyProof.TupleOfSeq
import PyProof.WalksS
import PyProof.CollectWalk
import PyProof.SetRoads
import PyProof.Rows.SetFrom
import PyProof.RulesAssignMore
import KE.KDictList
import PySem.Challenge.RW_struckdeeds_k40_lifted
set_option Elab.async false
set_option linter.all false
set_option maxRecDepth 100000
set_option compiler.extract_closed false
set_option maxHeartbeats 4000000
open PySem.Str renaming ofString → a0Q
open PySem.Value renaming ref → a0X, none → a4J, int → b7Q
open PySem.PyData renaming eqv → a0Z, str → a0K, depthAll → a1Q, depth → a3J, int → a4W, keyHash → a7W, canLay0 → b5J, canLayAll0 → b6K, tuple → b9X, strOk → b9Z
open List renaming range → a0J, filterMap_cons → a1V, length_take → a2X, lookup_cons → a2K, mem_cons_self → a2V, take_length → a3X, replicate → a3Z, drop_eq_nil_of_le → a3K, length_drop → a3V, take_add_one → a4Z, map_nil → a5Z, getElem?_eq_none → a5J, mem_of_mem_take → a5V, any_cons → a6Q, pairwise_map → a6X, zip_cons_cons → a6W, find?_cons → a7Q, append_assoc → a7X, filter_sublist → a7K, any_eq_true → a8Q, take_of_length_le → a8J, take_append_drop → a9Q, map_id → a9X, length_replicate → a9Z, map_drop → a9V, mem_of_mem_drop → b0J, getElem_mem → b1X, replicate_succ → b1J, eq_of_mem_replicate → b1V, append_nil → b2Q, length → b2W, ext_getElem? → b2V, take_eq_take_iff → b3Z, getElem?_set_ne → b3W, length_zip → b4Z, length_nil → b4J, getElem?_zip_eq_some → b6V, length_filterMap_le → b7K, getLast?_map → b7W, filter_congr → b7V, zipIdx_cons → b8W, all_eq_true → b8V
open PySem.Txt renaming slice → a0W
open Sum renaming inr → a0V, inl → a8K
open PySem.Builtin.Slice renaming slicePlaces → a1X, sliceAdjust → a6Z, sliceApplied → a7V
open Bool renaming and_eq_true → a1Z, eq_iff_iff → a2W, false_eq_true → b6J
open PySem.W renaming mg_none_of → a1J, nsIn → a2Z, kia_one → a2J, boot_heap → a4K, kHook → a5W, fnOf → a6V, topRun → a7J, keepIn → b0Q, segRunT → b1W, piecesOf → b3Q, boot_drawn → b4X, restOf → b4K, codeIn → b4W, segRun_of → b5W, boot_toks → b5V
open PySem.Builtin.Tuple renaming tupleExact → a1K, tupleItemsOf → b3X
open PySem.Builtin.SmallTypes renaming nextOf → a1W, ownedTupleIsFree → a2Q, ownedTupleHandOut → b5X
open PyProof.Rows renaming slot_tuple_getitem → a3Q, boot_sorted → a9J, boot_list → b5K
open Option renaming some → a3W, none → b7J
open Array renaming length_toList → a4Q, getElem?_toList → a5X, toArray_toList → b3J, getD_eq_getD_getElem? → b4Q, getElem?_eq_none → b9Q
open PySem.Builtin.Str renaming strSliceIndices → a4X, occurrences → b0K
open PySem renaming mem_of_lookup → a4V
open Nat renaming add_le_add_left → a5Q, le_add_right → a8Z, ne_of_gt → a9K, min_eq_left → a9W, min_eq_right → b3K, add_le_add_right → b3V, le_succ → b5Z, zero_add → b6W, lt_succ_of_lt → b8J
open List.Sublist renaming refl → a5K
open PySem.NameKind renaming free → a6J
open PySem.Obj renaming mapSeq → a6K
open Int renaming toNat_natCast → a7Z, natCast_nonneg → a8V, fdiv_eq_ediv_of_nonneg → b6Z
open True renaming intro → a8X
open PySem.F renaming slot_dict_get → a8W, slot_tuple_iterator_next → b0V, args_tuple_add_2 → b6Q, plainAttrs_dict → b7X, entry_tuple_add → b7Z, slot_tuple_add → b8Q, entry_dict_get → b8X
open PySem.Builtin.Range renaming rangeSize → b0X, small → b8Z
open PySem.W.OpenRow renaming toRowW → b0Z
open PySem.Heap renaming size_push → b0W
open Ne renaming symm → b1Q
open ForInStep renaming yield → b1Z
open False renaming elim → b1K
open PySem.W.RowW renaming records → b2X
open PySem.W.OpenLaw renaming row → b2Z
open PySem.Calls renaming callWith_builtin → b2J, call_function_entry → b6X
open PySem.Builtin.List renaming listExtendWith → b2K
open PySem.W.Hook renaming val → b4V, obs → b5Q
open PySem.Heap.SameBut renaming update → b8K
open PySem renaming wpAny_bind → zZ, wpAny_pure → zY, wpAny_newObj_type → xM
open List renaming length_map → zX, getElem?_eq_getElem → zV, mem_map → zL, size_toArray → zJ, map_cons → zI, getElem?_map → zF, map_map → zD, mem_append_right → zB, mem_append_left → zA, length_append → yY, mem_cons → yX, mem_append → yW, mem_cons_of_mem → yV, getD_eq_getElem?_getD → yU, getElem?_eq_some_iff → yT, length_cons → yR, getElem?_append_left → yQ, getElem?_append_right → yP, mem_of_getElem? → yN, map_congr_left → yM, mem_filter → yL, length_filter_le → yJ, getElem?_range → yA, length_range → xZ, not_mem_nil → xX, nodup_cons → xV, filter_map → xU, map_append → xI
open PySem.Heap renaming get?_push_of_some → zW, lt_size → zM, get?_push_size → yZ
open Nat renaming le_refl → zR, lt_of_le_of_lt → zQ, lt_of_lt_of_le → zP, le_trans → zN, ne_of_lt → zC, lt_irrefl → yF, le_of_ble_eq_true → yD, zero_le → xT, le_of_lt → xR
open PySem.SeqAt renaming shaped → zH, canLay_of_shaped → zG
open Option renaming isSome_iff_exists → xY
open PySem.Calls renaming spliced_cons → xP
open PySem.Builtin.Int renaming intBits → xJ
open PyProof.Rows renaming callWith_type1 → xH
abbrev sT (n:Nat):PySem.Stmt:=PySem.Challenge.pw_struckdeeds_k40_lifted.main.body.getD n (.Pass ⟨0,0,0,0⟩)
abbrev Frg:=PySem.W.Frag
theorem nft:¬(false=true):=Bool.false_ne_true
namespace L2
open PySem PySem.Spec PyProof.Rows
abbrev Key:=Sum Int Str
def JU:Key->Value->Bool
 | .inl k,v=>Value.isInt k v
 | .inr x,v=>Value.isStrOf x v
def qF (w:World):Key->Int
 | .inl k=>hashInt k
 | .inr x=>hashStr w x
theorem AZ:∀{k:Key}{v:Value},JU k v=true->(∃i t,k=a8K i/\v=b7Q i t)∨(∃x t,k=a0V x/\v=Value.str x t)
 | .inl i,v,h=>by
   obtain⟨t,e⟩:=Value.isInt_shape (k:=i) (v:=v) h
   exact .inl ⟨i,t,rfl,e⟩
 | .inr x,v,h=>by
   obtain⟨t,e⟩:=Value.isStrOf_shape (x:=x) (v:=v) h
   exact .inr ⟨x,t,rfl,e⟩
theorem YC (i:Int) (t:Tok):JU (.inl i) (.int i t)=true:=by simp[JU,Value.isInt]
theorem YD (x:Str) (t:Tok):JU (.inr x) (.str x t)=true:=by simp[JU,Value.isStrOf]
theorem kK (a b:Int):decide ((a8K a:Key)=a8K b)=(a==b):=by
 by_cases e:a=b
 · subst e;simp
 · have h:¬(a8K a:Key)=a8K b:=fun q=>e (Sum.inl.inj q)
   rw[decide_eq_false h]
   exact(beq_eq_false_iff_ne.mpr e).symm
theorem kL (a b:Str):decide ((a0V a:Key)=a0V b)=decide (a=b):=by
 by_cases e:a=b
 · subst e;simp
 · have h:¬(a0V a:Key)=a0V b:=fun q=>e (Sum.inr.inj q)
   rw[decide_eq_false h,decide_eq_false e]
theorem kM (a:Int) (b:Str):decide ((a8K a:Key)=a0V b)=false:=decide_eq_false (fun q=>nomatch q)
theorem kN (a:Str) (b:Int):decide ((a0V a:Key)=a8K b)=false:=decide_eq_false (fun q=>nomatch q)
def AK (prog:Program) (w:World):PySem.KeyKind prog w Key where
 is:=JU
 hash:=qF w
 inj:=fun v a b ha hb=>by
   rcases AZ ha with ⟨i,t,rfl,rfl⟩ | ⟨x,t,rfl,rfl⟩
   · rcases AZ hb with ⟨j,u,rfl,e⟩ | ⟨y,u,rfl,e⟩
     · injection e with e1 _;rw[e1]
     · exact nomatch e
   · rcases AZ hb with ⟨j,u,rfl,e⟩ | ⟨y,u,rfl,e⟩
     · exact nomatch e
     · injection e with e1 _;rw[e1]
 byValue:=fun k v h=>by
   rcases AZ h with ⟨i,t,rfl,rfl⟩ | ⟨x,t,rfl,rfl⟩ <;> rfl
 pyHash:=fun hv h=>by
   rcases AZ hv with ⟨i,t,rfl,rfl⟩ | ⟨x,t,rfl,rfl⟩
   · exact wpAny_pyHash_int h
   · exact wpAny_pyHash_str h
 eqBool:=fun hu hv h=>by
   rcases AZ hu with ⟨i,t,rfl,rfl⟩ | ⟨x,t,rfl,rfl⟩
   · rcases AZ hv with ⟨j,u,rfl,rfl⟩ | ⟨y,u,rfl,rfl⟩
     · rw[kK] at h;exact wpAny_eqBool_int h
     · rw[kM] at h;exact SeqAt.EqAt.int_str i t y u _ _ _ _ h
   · rcases AZ hv with ⟨j,u,rfl,rfl⟩ | ⟨y,u,rfl,rfl⟩
     · rw[kN] at h;exact SeqAt.EqAt.str_int x t j u _ _ _ _ h
     · rw[kL] at h;exact wpAny_eqBool_str h
 «strs»:=fun k x t v h=>by
   rcases AZ h with ⟨i,u,rfl,e⟩ | ⟨y,u,rfl,e⟩
   · exact nomatch e
   · injection e with e1 _
     subst e1
     cases v <;> rfl
theorem T4 (prog:Program) (w:World) (i:Int) (t:Tok):(AK prog w).is (.inl i) (.int i t)=true:=YC i t
theorem LN (prog:Program) (w:World) (x:Str) (t:Tok):(AK prog w).is (.inr x) (.str x t)=true:=YD x t
inductive V where
 | non | bl (b:Bool) | int (i:Int) | str (x:Str) | byt (b:Array UInt8) | flt (b:UInt64) | ref (a:Addr) | ty (n:String)
 deriving DecidableEq
def RelV:V->Value->Prop
 | .non,u=>u=a4J
 | .bl b,u=>u=Value.bool b
 | .int i,u=>∃t,u=b7Q i t
 | .str x,u=>∃t,u=Value.str x t
 | .byt b,u=>∃t,u=Value.bytes b t
 | .flt b,u=>∃t,u=Value.float b t
 | .ref a,u=>u=a0X a
 | .ty n,u=>u=Value.type n
abbrev Vals:List V->List Value->Prop:=Paired RelV
theorem Vals.length {xs:List V}{us:List Value}(r:Vals xs us):xs.length=us.length:=Paired.length r
theorem Vals.get:∀{xs:List V}{us:List Value}{i:Nat}{x:V},Vals xs us->xs[i]?=some x->∃u,us[i]?=some u/\RelV x u
 | _,_,_,_,.nil,e=>by simp at e
 | _,_,0,_,.cons r _,e=>by simp at e;subst e;exact⟨_,rfl,r⟩
 | _,_,i+1,x,.cons _ t,e=>by
   obtain⟨u,h1,h2⟩:=Vals.get (i:=i) (x:=x) t (by simpa using e)
   exact⟨u,by simpa using h1,h2⟩
theorem Vals.set {x:V}{u:Value}(r:RelV x u):∀{xs:List V}{us:List Value}(i:Nat),Vals xs us->Vals (xs.set i x) (us.set i u)
 | _,_,_,.nil=>.nil
 | _,_,0,.cons _ t=>.cons r t
 | _,_,i+1,.cons q t=>.cons q (Vals.set r i t)
theorem Vals.append:∀{xs ys:List V}{us ws:List Value},Vals xs us->Vals ys ws->Vals (xs++ys) (us++ws)
 | _,_,_,_,.nil,s=>s
 | _,_,_,_,.cons r t,s=>.cons r (Vals.append t s)
theorem Vals.take:∀{xs:List V}{us:List Value}(n:Nat),Vals xs us->Vals (xs.take n) (us.take n)
 | _,_,0,_=>.nil
 | _,_,_+1,.nil=>.nil
 | _,_,n+1,.cons r t=>.cons r (Vals.take n t)
theorem Vals.drop:∀{xs:List V}{us:List Value}(n:Nat),Vals xs us->Vals (xs.drop n) (us.drop n)
 | _,_,0,r=>r
 | _,_,_+1,.nil=>.nil
 | _,_,n+1,.cons _ t=>Vals.drop n t
def RelO:Option V->Option Value->Prop
 | some v,some u=>RelV v u
 | none,none=>True
 | _,_=>False
def KV {κ:Type}:List (κ×V)->List (κ×Value)->Prop:=Paired fun(p:κ×V) (q:κ×Value)=>p.1=q.1/\RelV p.2 q.2
def kV:Key->V
 | .inl i=>.int i
 | .inr x=>.str x
inductive HO where
 | lst (xs:List V)
 | tup (xs:List V)
 | dK (kvs:List (Key×V)) | dT (kvs:List (List Key×V))
 | set (S:Int->Bool) (n:Nat)
 | ins (C dx:Addr) (fs:List (Str×V))
 | own (x:Addr)
 | xd (fs:List (Str×V))
 | met (f x:Addr)
 | rng (lo hi:Int)
 | frz (o:Obj) (u:HO)
 | tbl (ps:Array Value)
 | ext (φ:Heap->Prop)
abbrev Hp:=Addr->Option HO
def upd (H:Hp) (a:Addr) (o:HO):Hp:=fun b=>if b=a then some o else H b
theorem AE {H:Hp}{a:Addr}{o:HO}:upd H a o a=some o:=by unfold upd;rw[if_pos rfl]
theorem AG {H:Hp}{a b:Addr}{o:HO}(h:b≠a):upd H a o b=H b:=by unfold upd;rw[if_neg h]
theorem oG {H:Hp}{a b:Addr}{o u:HO}(h:H a=some o) (h':H b=some u) (d:o≠u):a≠b:=by
 intro e;subst e;rw[h] at h';exact d (Option.some.inj h')
theorem B0 {H:Hp}{a b:Addr}{o:HO}(h:H a=some o) (h':H b=none):a≠b:=by
 intro e;subst e;rw[h] at h';cases h'
section
variable (P:Program) (w:World)
def ObjOk (H:Hp) (h:Heap) (a:Addr):HO->Prop
 | .lst xs=>xs.length<=sizeLine/\∃(its:List Value) (n:Nat),Vals xs its/\h.get? a=some { cls:=.type "list", data:=.seq its.toArray n }
 | .tup xs=>xs.length<=sizeLine/\∃its:List Value,Vals xs its/\IsTup h a its.toArray
 | .dK kvs=>kvs.length<=sizeLine/\(a==sysModules)=false/\∃vs,KV kvs vs/\h.DictOf (AK P w) a vs
 | .dT kvs=>kvs.length<=sizeLine/\(a==sysModules)=false/\∃xs:List (List Key×Addr×Value),
     Paired (fun(p:List Key×V) (q:List Key×Addr×Value)=>p.1=q.1/\H q.2.1=some (.tup (p.1.map kV))/\RelV p.2 q.2.2) kvs xs /\
     ∃o es ep,h.get? a=some o/\o.ExactDict/\o.data = .dict es ep/\es.toList=xs.map (entryOfKey (tupleKind (AK P w)))/\(xs.map (·.1)).Nodup
 | .set S n=>h.SetOf (intKind P w) a S n
 | .ins C dx fs=>H dx=some (.own a)/\fs.length<=1000/\dx≠a/\h.get? a=some (PySem.W.instObj C dx) /\
     ∃mA,h.Ns1 dx mA/\(∀f,RelO (fs.lookup f) (mA f))/\PySem.Within mA (fs.map (·.1))
 | .own _=>∃o,h.get? a=some o
 | .xd fs=>∃mA,h.Ns1 a mA/\∀f,RelO (fs.lookup f) (mA f)
 | .rng lo hi=>∃t u v,h.get? a=some { cls:=.type "range", data:=.fields #[.int lo t,.int hi u,.int 1 v] }
 | .frz o u=>h.get? a=some o/\ObjOk H h a u
 | .tbl ps=>h.get? a=some { cls:=.none,data:=.fields ps }
 | .met f x=>h.get? a=some (PySem.W.methodObj (.ref f) (.ref x))
 | .ext φ=>φ h/\(∃o,h.get? a=some o)/\∀h1 h2:Heap,φ h1->(∀o,h1.get? a=some o->h2.get? a=some o)->φ h2
def HOk (H:Hp) (h:Heap):Prop:=∀a o,H a=some o->ObjOk P w H h a o
end
section
variable {P:Program}{w:World}{H H':Hp}{h h':Heap}{a:Addr}{o:HO}
theorem ObjOk.lt (x:ObjOk P w H h a o):a < h.objs.size:=by
 cases o with
 | lst xs=>obtain⟨_,_,_,_,e⟩:=x;exact zM e
 | tup xs=>obtain⟨_,_,_,p⟩:=x;exact p.lt
 | dK kvs=>obtain⟨_,_,_,_,o,_,_,e,_⟩:=x;exact zM e
 | dT kvs=>obtain⟨_,_,_,_,o,_,_,e,_⟩:=x;exact zM e
 | set S n=>obtain⟨o,_,_,_,e,_⟩:=x;exact zM e
 | ins C dx fs=>obtain⟨_,_,_,e,_⟩:=x;exact zM e
 | own y=>obtain⟨_,e⟩:=x;exact zM e
 | xd fs=>obtain⟨_,⟨_,_,_,e,_⟩,_⟩:=x;exact zM e
 | rng lo hi=>obtain⟨_,_,_,e⟩:=x;exact zM e
 | frz ob u=>obtain⟨e,_⟩:=x;exact zM e
 | tbl ps=>exact zM (show h.get? a=some _ from x)
 | met f y=>exact zM (show h.get? a=some _ from x)
 | ext φ=>obtain⟨_,⟨_,e⟩,_⟩:=x;exact zM e
theorem Paired.mapP {α β:Type}{F G:α->β->Prop}:∀{l₁:List α}{l₂:List β},Paired F l₁ l₂->(∀a b,F a b->G a b)->Paired G l₁ l₂
 | _,_,.nil,_=>.nil
 | _,_,.cons r t,f=>.cons (f _ _ r) (Paired.mapP t f)
theorem ObjOk.stay (x:ObjOk P w H h a o) (k:∀b u,(b=a∨H b=some (.own a))->h.get? b=some u->h'.get? b=some u)
   (ho:∀b,H b=some (.own a)->H' b=some (.own a)) (ht:∀b xs,H b=some (.tup xs)->H' b=some (.tup xs)):ObjOk P w H' h' a o:=by
 induction o with
 | lst xs=>obtain⟨z,its,n,r,e⟩:=x;exact⟨z,its,n,r,k _ _ (.inl rfl) e⟩
 | tup xs=>obtain⟨z,its,r,ob,e,c⟩:=x;exact⟨z,its,r,ob,k _ _ (.inl rfl) e,c⟩
 | dK kvs=>obtain⟨z,y,vs,r,ob,es,ep,e,c⟩:=x;exact⟨z,y,vs,r,ob,es,ep,k _ _ (.inl rfl) e,c⟩
 | dT kvs=>
   obtain⟨z,y,xs,r,ob,es,ep,e,c⟩:=x
   exact⟨z,y,xs,Paired.mapP r fun p q z=>⟨z.1,ht _ _ z.2.1,z.2.2⟩,ob,es,ep,k _ _ (.inl rfl) e,c⟩
 | set S n=>obtain⟨ob,es,ep,t,e,c⟩:=x;exact⟨ob,es,ep,t,k _ _ (.inl rfl) e,c⟩
 | ins C dx fs=>
   obtain⟨d,z,ne,e,mA,⟨od,es,ep,e2,c⟩,r⟩:=x
   exact⟨ho _ d,z,ne,k _ _ (.inl rfl) e,mA,⟨od,es,ep,k _ _ (.inr d) e2,c⟩,r⟩
 | own y=>obtain⟨ob,e⟩:=x;exact⟨ob,k _ _ (.inl rfl) e⟩
 | xd fs=>obtain⟨mA,⟨od,es,ep,e,c⟩,r⟩:=x;exact⟨mA,⟨od,es,ep,k _ _ (.inl rfl) e,c⟩,r⟩
 | rng lo hi=>obtain⟨t,u,v,e⟩:=x;exact⟨t,u,v,k _ _ (.inl rfl) e⟩
 | frz ob u ih=>obtain⟨e,q⟩:=x;exact⟨k _ _ (.inl rfl) e,ih q⟩
 | tbl ps=>
   have e:h.get? a=some { cls:=.none,data:=.fields ps }:=x
   show h'.get? a=some { cls:=.none,data:=.fields ps }
   exact k a _ (.inl rfl) e
 | met f y=>
   have e:h.get? a=some (PySem.W.methodObj (.ref f) (.ref y)):=x
   show h'.get? a=some (PySem.W.methodObj (.ref f) (.ref y))
   exact k a _ (.inl rfl) e
 | ext φ=>obtain⟨p,⟨o,e⟩,st⟩:=x;exact⟨st _ _ p fun o q=>k _ _ (.inl rfl) q,⟨o,k _ _ (.inl rfl) e⟩,st⟩
theorem HOk.lt (x:HOk P w H h) (e:H a=some o):a < h.objs.size:=(x a o e).lt
theorem HOk.fresh (x:HOk P w H h) (e:h.objs.size<=a):H a=none:=by
 cases q:H a with
 | none=>rfl
 | some u=>exact absurd (zP (x.lt q) e) (yF _)
theorem HOk.kept (x:HOk P w H h) (k:∀b u,h.get? b=some u->h'.get? b=some u):HOk P w H h':=fun a o e=>
 (x a o e).stay (fun b u _ q=>k b u q) (fun _ q=>q) fun _ _ q=>q
theorem HOk.laid (x:HOk P w H h) (k:∀b u,h.get? b=some u->h'.get? b=some u) (hp:h.objs.size<=a) (new:ObjOk P w (upd H a o) h' a o):HOk P w (upd H a o) h':=fun b u e=>by
 have hn:=x.fresh hp
 by_cases hb:b=a
 · subst hb;rw[AE] at e;cases e;exact new
 · rw[AG hb] at e
   exact(x b u e).stay (fun c v _ q=>k c v q) (fun c q=>by rw[AG (B0 q hn)];exact q) fun c xs q=>by rw[AG (B0 q hn)];exact q
end
def Rd (H:Hp) (a:Addr) (u:HO):Prop:=H a=some u∨∃o,H a=some (.frz o u)
theorem Rd.ok {P:Program}{w:World}{H:Hp}{h:Heap}{a:Addr}{u:HO}(r:Rd H a u) (x:HOk P w H h):ObjOk P w H h a u:=by
 rcases r with r | ⟨o,r⟩
 · exact x a u r
 · obtain⟨_,q⟩:=x a _ r
   exact q
def Mut:Option HO->Prop
 | some (.lst _)=>True
 | some (.dK _)=>True
 | some (.dT _)=>True
 | some (.set _ _)=>True
 | some (.ins _ _ _)=>True
 | some (.ext _)=>True
 | _=>False
section
variable {P:Program}{w:World}{H:Hp}{h h':Heap}{x e:Addr}{o':HO}
theorem HOk.write (ok:HOk P w H h) (mu:Mut (H x)) (he:e=x∨H e=some (.own x)) (k:∀b u,b≠e->h.get? b=some u->h'.get? b=some u) (heo:∃u,h'.get? e=some u)
   (new:ObjOk P w (upd H x o') h' x o'):HOk P w (upd H x o') h':=fun b u q=>by
 have nown:∀c y,H c=some (.own y)->c≠x:=fun c y r z=>by subst z;rw[r] at mu;exact mu
 have ntup:∀c xs,H c=some (.tup xs)->c≠x:=fun c xs r z=>by subst z;rw[r] at mu;exact mu
 by_cases hb:b=x
 · subst hb;rw[AE] at q;cases q;exact new
 · rw[AG hb] at q
   by_cases hbe:b=e
   · have q':H b=some (.own x):=by
       rcases he with z | z
       · exact absurd (hbe.trans z) hb
       · rw[hbe];exact z
     rw[q] at q';cases q'
     obtain⟨v,hv⟩:=heo
     exact⟨v,by rw[hbe];exact hv⟩
   · refine(ok b u q).stay (fun c v hc r=>k c v ?_ r) (fun c r=>by rw[AG (nown c b r)];exact r) fun c xs r=>by rw[AG (ntup c xs r)];exact r
     rcases hc with rfl | hc
     · exact hbe
     · rintro rfl
       rcases he with z | z
       · exact nown c b hc z
       · rw[hc] at z;cases z;exact hb rfl
end
structure Un (fs ex:List Addr) (H H':Hp) (h h':Heap):Prop where
 keep:∀b o,h.get? b=some o->H b=none->b∉fs->b∉ex->h'.get? b=some o
 slot:∀b o,h.get? b=some o->H b=none->b∈fs->b∉ex->∃sl,h'.get? b=some { o with slots:=sl }
 free:∀b o,h.get? b=some o->H b=none->b∉ex->H' b=none
 there:∀b o,h.get? b=some o->b∉ex->∃o',h'.get? b=some o'
 tups:∀b xs,H b=some (.tup xs)->H' b=some (.tup xs)
 frzs:∀b o u,H b=some (.frz o u)->H' b=some (.frz o u)
 tbls:∀b ps,H b=some (.tbl ps)->∃more,H' b=some (.tbl (ps++more))
section
variable {fs fs' ex ex':List Addr}{H H1 H2:Hp}{h h1 h2 h':Heap}{a x e:Addr}{o:HO}
theorem Un.any (u:Un fs ex H H1 h h1) {b:Addr}{ob:Obj}(q:h.get? b=some ob) (n:H b=none) (hx:b∉ex):∃sl,h1.get? b=some { ob with slots:=sl }:=by
 by_cases hb:b∈fs
 · exact u.slot b ob q n hb hx
 · exact⟨ob.slots,u.keep b ob q n hb hx⟩
theorem Un.kept (k:∀b u,h.get? b=some u->h'.get? b=some u):Un fs ex H H h h':=
 ⟨fun b ob q _ _ _=>k b ob q,fun b ob q _ _ _=>⟨ob.slots,k b ob q⟩,fun _ _ _ n _=>n,fun b ob q _=>⟨ob,k b ob q⟩,fun _ _ q=>q,fun _ _ _ q=>q,fun _ ps q=>⟨#[],by rw[q];simp⟩⟩
theorem Un.refl:Un fs ex H H h h:=Un.kept fun _ _ q=>q
theorem Un.laid (k:∀b u,h.get? b=some u->h'.get? b=some u) (hp:h.objs.size<=a) (hn:H a=none):Un fs ex H (upd H a o) h h' where
 keep:=fun b u q _ _ _=>k b u q
 slot:=fun b u q _ _ _=>⟨u.slots,k b u q⟩
 free:=fun b u q n _=>by rw[AG (zC (zP (zM q) hp))];exact n
 there:=fun b u q _=>⟨u,k b u q⟩
 tups:=fun b xs q=>by rw[AG (B0 q hn)];exact q
 frzs:=fun b u xs q=>by rw[AG (B0 q hn)];exact q
 tbls:=fun b ps q=>⟨#[],by rw[AG (B0 q hn),q];simp⟩
theorem Un.write (mu:Mut (H x)) (he:e=x∨H e=some (.own x)) (k:∀b u,b≠e->h.get? b=some u->h'.get? b=some u) (heo:∃u,h'.get? e=some u):Un fs ex H (upd H x o) h h':=by
 have hx:∀b,H b=none->b≠x:=fun b n z=>by subst z;rw[n] at mu;exact mu
 have hb:∀b,H b=none->b≠e:=fun b n z=>by
   subst z
   rcases he with r | r
   · exact hx b n r
   · rw[n] at r;cases r
 have hm:∀b u,H b=some u->¬Mut (some u)->b≠x:=fun b u q nm z=>by subst z;rw[q] at mu;exact nm mu
 refine⟨fun b u q n _ _=>k b u (hb b n) q,fun b u q n _ _=>⟨u.slots,k b u (hb b n) q⟩,fun b u q n _=>by rw[AG (hx b n)];exact n,fun b u q _=>?_,
   fun b xs q=>by rw[AG (hm b _ q fun z=>z)];exact q,fun b u xs q=>by rw[AG (hm b _ q fun z=>z)];exact q,fun b ps q=>⟨#[],by rw[AG (hm b _ q fun z=>z),q];simp⟩⟩
 by_cases hbe:b=e
 · subst hbe;exact heo
 · exact⟨u,k b u hbe q⟩
end
def trk (h:Heap) (H:Hp):List Addr:=(a0J h.objs.size).filter fun a=>(H a).isSome
def QT (h:Heap) (H:Hp):Heap:=PySem.W.hideAll h (trk h H)
theorem YE (h:Heap) (H:Hp):(QT h H).objs.size=h.objs.size:=PySem.W.hideAll_size _ _
theorem aK {h:Heap}{H:Hp}{b:Addr}{o:Obj}(e:h.get? b=some o) (n:H b=none):(QT h H).get? b=some o:=
 PySem.W.hideAll_get _ e fun hm=>by
   have q:(H b).isSome=true:=(yL.mp hm).2
   rw[n] at q;simp at q
theorem fL {h:Heap}{H:Hp}{b:Addr}{o:Obj}(e:(QT h H).get? b=some o):h.get? b=some o/\H b=none:=by
 have e':h.get? b=some o:=PySem.W.of_hideAll (trk h H) e
 refine⟨e',?_⟩
 cases q:H b with
 | none=>rfl
 | some x=>
   have hm:b∈trk h H:=yL.mpr ⟨List.mem_range.mpr (zM e'),by simp[q]⟩
   have z:(QT h H).get? b=none:=PySem.W.hideAll_none (trk h H) hm
   rw[z] at e;cases e
structure Mod (K:Frg) (mg:Str->Option Value) (base:Heap):Prop where
 kin:K.In base
 glob:base.Ns mainGlobals mg
 blt:∃mb,base.Ns builtinsNs mb/\∀x:Str,x ≠ "__name__" -> mb x=bootBuiltins x
 nolimit:base.NoLimit
structure Cx where
 prog:Program
 w:World
 K:Frg
 mg:Str->Option Value
 base:Heap
 A:Around
 N:List Str
 s₀:Shared
 H₀:Hp
 env:Env
 outer:List Env
 stack:List Env
 ex:List Addr
 fn:Str->Bool
 calm:Bool
 pn:List (Addr×Obj)
 xe:Value->Shared->Prop
def frs (l:List Env):List Addr:=l.filterMap (·.frame)
abbrev Cx.fs (X:Cx):List Addr:=frs X.outer
def Vis (sc:Scope) (x:Str):Prop:=sc.names.lookup x=some .local∨sc.names.lookup x=some .cell∨sc.names.lookup x=some .free
def Loc (sc:Scope) (x:Str):Prop:=sc.names.lookup x=some .local∨sc.names.lookup x=some .cell
def qG (env:Env) (h:Heap) (m:Str->Option Value) (x:Str) (u:Value):Prop:=
 (env.kindOf x=some .local/\m x=some u)∨((env.kindOf x=some .cell∨env.kindOf x=some .free)/\∃c,env.cells.lookup x=some c/\h.IsCell c (some u))
structure Cx.Ok (X:Cx):Prop where
 mod:Mod X.K X.mg X.base
 kind:X.env.scope.kind = .function
 glob:X.env.globals=mainGlobals
 blt:X.env.builtins=builtinsNs
 above:X.s₀.heap.objs.size<=X.env.locals
 inj:∀x y c,X.env.cells.lookup x=some c->X.env.cells.lookup y=some c->x=y
 has:∀x,(X.env.kindOf x=some .cell∨X.env.kindOf x=some .free)->∃c,X.env.cells.lookup x=some c
 cab:∀x c,X.fn x=true->X.env.cells.lookup x=some c->X.s₀.heap.objs.size<=c
 hd:X.calm=true->X.A.handled=none
 frames:X.A.frames=some X.stack
 stk:X.stack=X.outer∨(X.stack=X.env::X.outer/\X.env.frame=some X.env.locals)
 exf:∀b∈X.ex,b≠X.env.locals/\∀x c,X.env.cells.lookup x=some c->c≠b
 bs:∀b o,X.base.get? b=some o->X.s₀.heap.get? b=some o/\X.H₀ b=none
 bsz:X.base.objs.size<=X.s₀.heap.objs.size
 noex:∀b o,X.base.get? b=some o->b∉X.ex
 exfs:∀b∈X.ex,b∉X.fs
 funs:X.s₀.heap.FunFrames X.base X.outer
 frf:∀b∈X.fs,X.H₀ b=none
structure Inv (X:Cx) (pins:List (Addr×Obj)) (σ:List (Option V)) (H:Hp) (s:Shared):Prop where
 ok:X.Ok
 os:s.os=X.s₀.os
 bare:AllBare s.gens
 base:Un X.fs X.ex X.H₀ H X.s₀.heap s.heap
 loc:∃m,s.heap.Ns X.env.locals m/\∀(i:Nat) (x:Str) (v:V),X.N[i]?=some x->σ[i]?=some (some v)->Vis X.env.scope x->∃u,RelV v u/\qG X.env s.heap m x u
 cell:∀x c,X.env.cells.lookup x=some c->∃v,s.heap.IsCell c v
 free:H X.env.locals=none
 freeC:∀x c,X.env.cells.lookup x=some c->H c=none
 pin:∀p∈X.pn++pins,s.heap.get? p.1=some p.2/\H p.1=none/\p.1≠X.env.locals/\p.1∉X.fs/\∀v,p.2.data≠.cell v
 hok:HOk X.prog X.w H s.heap
 len:σ.length=X.N.length
section
variable {X:Cx}{pins:List (Addr×Obj)}{σ:List (Option V)}{H H':Hp}{s:Shared}{h':Heap}
theorem Cx.Ok.nofr (ok:X.Ok) {b:Addr}{o:Obj}(e:X.base.get? b=some o):b∉X.fs:=fun hb=>by
 have:=(ok.funs.mem hb).1
 rw[e] at this;cases this
theorem Inv.bs (I:Inv X pins σ H s):∀b o,X.base.get? b=some o->s.heap.get? b=some o/\H b=none:=fun b o e=>
 ⟨I.base.keep b o (I.ok.bs b o e).1 (I.ok.bs b o e).2 (I.ok.nofr e) (I.ok.noex b o e),I.base.free b o (I.ok.bs b o e).1 (I.ok.bs b o e).2 (I.ok.noex b o e)⟩
theorem Inv.bk (I:Inv X pins σ H s):∀b o,X.base.get? b=some o->s.heap.get? b=some o:=fun b o e=>(I.bs b o e).1
theorem Inv.mod (I:Inv X pins σ H s):Mod X.K X.mg X.base:=I.ok.mod
theorem Inv.kIn (I:Inv X pins σ H s):X.K.In s.heap:=I.ok.mod.kin.keeps I.bk
theorem Inv.lt (I:Inv X pins σ H s):X.env.locals < s.heap.objs.size:=let ⟨_,hn,_⟩:=I.loc;hn.lt
theorem Inv.sz (I:Inv X pins σ H s):X.s₀.heap.objs.size<=s.heap.objs.size:=zN I.ok.above (xR I.lt)
theorem Inv.nofs (I:Inv X pins σ H s) {a:Addr}(h:s.heap.objs.size<=a):a∉X.fs:=fun hb=>by
 obtain⟨_,o,ho,_⟩:=I.ok.funs.mem hb
 exact absurd (zP (zM ho) (zN I.sz h)) (yF _)
theorem Inv.cne (I:Inv X pins σ H s):∀x c,X.env.cells.lookup x=some c->c≠X.env.locals:=fun x c e z=>by
 obtain⟨v,o,ho,hd⟩:=I.cell x c e
 obtain⟨m,⟨o',es,ep,ho',hd',_⟩,_⟩:=I.loc
 rw[z,ho'] at ho;cases ho;rw[hd'] at hd;cases hd
theorem Inv.funs (I:Inv X pins σ H s):s.heap.FunFrames X.base X.outer:=by
 have all:∀(l:List Env),(∀b∈frs l,b∈X.fs)->X.s₀.heap.FunFrames X.base l->s.heap.FunFrames X.base l:=by
   intro l
   induction l with
   | nil=>intro _ _;trivial
   | cons env r ih=>
     intro hs hl
     obtain⟨hk,⟨L,o,hf,hn,ho,hd⟩,hr⟩:=hl
     have hL:L∈X.fs:=hs L (by unfold frs;rw[a1V,hf];exact a2V)
     obtain⟨sl,e⟩:=I.base.slot L o ho (I.ok.frf L hL) hL fun z=>I.ok.exfs L z hL
     exact⟨hk,⟨L,_,hf,hn,e,hd⟩,ih (fun b hb=>hs b (by unfold frs;rw[a1V,hf];exact yV _ hb)) hr⟩
 exact all X.outer (fun _ hb=>hb) I.ok.funs
theorem Inv.stack (I:Inv X pins σ H s):s.heap.FunFrames X.base X.stack:=by
 rcases I.ok.stk with e | ⟨e,hf⟩
 · rw[e];exact I.funs
 · rw[e]
   obtain⟨m,hn,_⟩:=I.loc
   refine .cons (by rw[I.ok.kind];decide) hf hn ?_ I.funs
   exact Heap.get?_none_of_le (zN I.ok.bsz I.ok.above)
theorem Inv.stkSub (I:Inv X pins σ H s):∀b∈frs X.stack,b∈X.env.locals::X.fs:=fun b hb=>by
 rcases I.ok.stk with e | ⟨e,hf⟩
 · rw[e] at hb;exact yV _ hb
 · rw[e] at hb
   unfold frs at hb
   rw[a1V,hf] at hb
   exact hb
theorem Inv.stkFree (I:Inv X pins σ H s):∀b∈frs X.stack,H b=none:=fun b hb=>by
 rcases yX.mp (I.stkSub b hb) with e | hb
 · rw[e];exact I.free
 · obtain⟨_,o,ho,_⟩:=I.ok.funs.mem hb
   exact I.base.free b o ho (I.ok.frf b hb) fun z=>I.ok.exfs b z hb
theorem Inv.step {g':Array GenState}{t':Nat}{d':Drawn}{ch:List Addr}(I:Inv X pins σ H s)
   (hch:∀b∈ch,(b∈X.ex∨X.s₀.heap.objs.size<=b)/\b≠X.env.locals/\(∀x c,X.env.cells.lookup x=some c->c≠b)/\∀p∈X.pn++pins,p.1≠b)
   (keep:∀b o,b≠X.env.locals->b∉X.fs->b∉ch->s.heap.get? b=some o->H b=none->h'.get? b=some o)
   (slot:∀b o,b≠X.env.locals->b∈X.fs->b∉ch->s.heap.get? b=some o->H b=none->∃sl,h'.get? b=some { o with slots:=sl }) (free:∀b o,b∉ch->s.heap.get? b=some o->H b=none->H' b=none)
   (there:∀b o,b∉ch->s.heap.get? b=some o->∃o',h'.get? b=some o')
   (tups:∀b xs,H b=some (.tup xs)->H' b=some (.tup xs)) (frzs:∀b o u,H b=some (.frz o u)->H' b=some (.frz o u)) (tbls:∀b ps,H b=some (.tbl ps)->∃more,H' b=some (.tbl (ps++more)))
   (ns:∀m,s.heap.Ns X.env.locals m->h'.Ns X.env.locals m) (hok:HOk X.prog X.w H' h') (hg:AllBare g') :
   Inv X pins σ H' { s with heap:=h',gens:=g',drawn:=d',toks:=t' }:=by
 have neL:∀b o,X.s₀.heap.get? b=some o->b≠X.env.locals:=fun b o e=>zC (zP (zM e) I.ok.above)
 have neC:∀b o,X.s₀.heap.get? b=some o->b∉X.ex->b∉ch:=fun b o e hx hb=>by
   rcases (hch b hb).1 with z | z
   · exact hx z
   · exact absurd (zP (zM e) z) (yF _)
 have cellK:∀x c,X.env.cells.lookup x=some c->∀v,s.heap.IsCell c v->h'.IsCell c v:=fun x c e v ⟨o,ho,hd⟩=>by
   have nch:c∉ch:=fun z=>(hch c z).2.2.1 x c e rfl
   by_cases hc:c∈X.fs
   · obtain⟨sl,q⟩:=slot c o (I.cne x c e) hc nch ho (I.freeC x c e)
     exact⟨_,q,hd⟩
   · exact⟨o,keep c o (I.cne x c e) hc nch ho (I.freeC x c e),hd⟩
 refine⟨I.ok,I.os,hg,⟨fun b o e n hb hx=>?_,fun b o e n hb hx=>?_,fun b o e n hx=>?_,fun b o e hx=>?_,fun b xs e=>tups b xs (I.base.tups b xs e),fun b o xs e=>frzs b o xs (I.base.frzs b o xs e),fun b ps e=>?_⟩,?_,fun x c e=>?_,?_,fun x c e=>?_,fun p hp=>?_,hok,I.len⟩
 · exact keep b o (neL b o e) hb (neC b o e hx) (I.base.keep b o e n hb hx) (I.base.free b o e n hx)
 · obtain⟨sl,e1⟩:=I.base.slot b o e n hb hx
   obtain⟨sl',e2⟩:=slot b _ (neL b o e) hb (neC b o e hx) e1 (I.base.free b o e n hx)
   exact⟨sl',e2⟩
 · obtain⟨o',e1⟩:=I.base.there b o e hx
   exact free b o' (neC b o e hx) e1 (I.base.free b o e n hx)
 · obtain⟨o',e1⟩:=I.base.there b o e hx
   exact there b o' (neC b o e hx) e1
 · obtain⟨m1,e1⟩:=I.base.tbls b ps e
   obtain⟨m2,e2⟩:=tbls b _ e1
   exact⟨m1++m2,by rw[e2,Array.append_assoc]⟩
 · obtain⟨m,hn,hl⟩:=I.loc
   refine⟨m,ns m hn,fun i x v e1 e2 e3=>?_⟩
   obtain⟨u,r,l⟩:=hl i x v e1 e2 e3
   refine⟨u,r,?_⟩
   rcases l with l | ⟨k,c,e,z⟩
   · exact .inl l
   · exact .inr ⟨k,c,e,cellK x c e _ z⟩
 · obtain⟨v,z⟩:=I.cell x c e
   exact⟨v,cellK x c e v z⟩
 · obtain⟨m,⟨o,_,_,ho,_⟩,_⟩:=I.loc
   exact free _ o (fun z=>(hch _ z).2.1 rfl) ho I.free
 · obtain⟨v,o,ho,hd⟩:=I.cell x c e
   exact free c o (fun z=>(hch c z).2.2.1 x c e rfl) ho (I.freeC x c e)
 · obtain⟨e,n,ne,nf,d⟩:=I.pin p hp
   have nch:p.1∉ch:=fun z=>(hch p.1 z).2.2.2 p hp rfl
   exact⟨keep p.1 p.2 ne nf nch e n,free p.1 p.2 nch e n,ne,nf,d⟩
theorem Inv.un {t':Nat}(I:Inv X pins σ H s) (u:Un X.fs [] H H' s.heap h') (hok:HOk X.prog X.w H' h'):Inv X pins σ H' { s with heap:=h',toks:=t' }:=by
 obtain⟨m,⟨o,es,ep,ho,r⟩,_⟩:=id I.loc
 obtain⟨sl,hL⟩:=u.any ho I.free (by simp)
 exact I.step (g':=s.gens) (d':=s.drawn) (ch:=[]) (fun _ z=>nomatch z) (fun b o _ hb _ e n=>u.keep b o e n hb (by simp)) (fun b o _ hb _ e n=>u.slot b o e n hb (by simp)) (fun b o _ e n=>u.free b o e n (by simp)) (fun b o _ e=>u.there b o e (by simp)) u.tups u.frzs u.tbls (fun m' hm=>by
   obtain⟨o',es',ep',ho',r'⟩:=hm
   rw[ho] at ho';cases ho'
   exact⟨_,es',ep',hL,r'⟩) hok I.bare
theorem Inv.call {g':Array GenState}{t':Nat}{d':Drawn}{ch:List Addr}(I:Inv X pins σ H s) (u:Un (frs X.stack) ch H H' s.heap h') (hok:HOk X.prog X.w H' h') (hg:AllBare g')
   (hch:∀b∈ch,(b∈X.ex∨X.s₀.heap.objs.size<=b)/\b≠X.env.locals/\(∀x c,X.env.cells.lookup x=some c->c≠b)/\∀p∈X.pn++pins,p.1≠b) :
   Inv X pins σ H' { s with heap:=h',gens:=g',drawn:=d',toks:=t' }:=by
 obtain⟨m,⟨o,es,ep,ho,r⟩,_⟩:=id I.loc
 obtain⟨sl,hL⟩:=u.any ho I.free fun z=>(hch _ z).2.1 rfl
 exact I.step (ch:=ch) hch (fun b o hL hb hc e n=>u.keep b o e n (fun z=>(yX.mp (I.stkSub b z)).elim hL hb) hc) (fun b o _ _ hc e n=>u.any e n hc) (fun b o hc e n=>u.free b o e n hc) (fun b o hc e=>u.there b o e hc) u.tups u.frzs u.tbls (fun m' hm=>by
   obtain⟨o',es',ep',ho',r'⟩:=hm
   rw[ho] at ho';cases ho'
   exact⟨_,es',ep',hL,r'⟩) hok hg
theorem Inv.turned {t':Nat}{it:Addr}(I:Inv X pins σ H s) (k:∀b o,b≠it->s.heap.get? b=some o->h'.get? b=some o) (hn:H it=none) (hL:it≠X.env.locals)
   (h1:it∈X.ex∨X.s₀.heap.objs.size<=it) (h2:∀x c,X.env.cells.lookup x=some c->c≠it) (h3:∀p∈X.pn++pins,p.1≠it):Inv X pins σ H { s with heap:=h',toks:=t' }:=by
 have nit:∀b u,H b=some u->b≠it:=fun b u e z=>by rw[z,hn] at e;cases e
 refine I.step (g':=s.gens) (d':=s.drawn) (ch:=[it]) (fun b hb=>?_) (fun b o _ _ hc e _=>k b o (fun z=>hc (by simp[z])) e) (fun b o _ _ hc e _=>⟨o.slots,k b o (fun z=>hc (by simp[z])) e⟩) (fun _ _ _ _ n=>n)
   (fun b o hc e=>⟨o,k b o (fun z=>hc (by simp[z])) e⟩) (fun _ _ e=>e) (fun _ _ _ e=>e) (fun b ps e=>⟨#[],by rw[e];simp⟩) (fun m hm=>?_) (fun b u e=>?_) I.bare
 · have e:b=it:=by simpa using hb
   subst e
   exact⟨h1,hL,h2,h3⟩
 · obtain⟨o,es,ep,ho,r⟩:=hm
   exact⟨o,es,ep,k _ o (b1Q hL) ho,r⟩
 · refine(I.hok b u e).stay (fun c v hc q=>k c v ?_ q) (fun _ q=>q) fun _ _ q=>q
   rcases hc with z | z
   · rw[z];exact nit b u e
   · exact nit c _ z
theorem Inv.tok (I:Inv X pins σ H s) (t:Nat):Inv X pins σ H { s with toks:=t }:=I.un (h':=s.heap) (t':=t) Un.refl I.hok
theorem Inv.kept {t':Nat}(I:Inv X pins σ H s) (k:∀b u,s.heap.get? b=some u->h'.get? b=some u):Inv X pins σ H { s with heap:=h',toks:=t' }:=I.un (Un.kept k) (I.hok.kept k)
theorem Inv.laid {a:Addr}{o:HO}{t':Nat}(I:Inv X pins σ H s) (k:∀b u,s.heap.get? b=some u->h'.get? b=some u) (hp:s.heap.objs.size<=a) (new:ObjOk X.prog X.w (upd H a o) h' a o) :
   Inv X pins σ (upd H a o) { s with heap:=h',toks:=t' }:=I.un (Un.laid k hp (I.hok.fresh hp)) (I.hok.laid k hp new)
theorem Inv.write {x e:Addr}{o:HO}{t':Nat}(I:Inv X pins σ H s) (mu:Mut (H x)) (he:e=x∨H e=some (.own x)) (k:∀b u,b≠e->s.heap.get? b=some u->h'.get? b=some u) (heo:∃u,h'.get? e=some u)
   (new:ObjOk X.prog X.w (upd H x o) h' x o):Inv X pins σ (upd H x o) { s with heap:=h',toks:=t' }:=I.un (Un.write mu he k heo) (I.hok.write mu he k heo new)
theorem Inv.weak {σ':List (Option V)}(I:Inv X pins σ H s) (hl:σ'.length=σ.length) (w:∀(i:Nat) v,σ'[i]?=some (some v)->σ[i]?=some (some v)):Inv X pins σ' H s:=
 ⟨I.ok,I.os,I.bare,I.base,let ⟨m,hn,hl'⟩:=I.loc;⟨m,hn,fun i x v e1 e2 e3=>hl' i x v e1 (w i v e2) e3⟩,I.cell,I.free,I.freeC,I.pin,I.hok,hl.trans I.len⟩
theorem Inv.pins_of {pins':List (Addr×Obj)}(I:Inv X pins σ H s) (h:∀p∈pins',s.heap.get? p.1=some p.2/\H p.1=none/\p.1≠X.env.locals/\p.1∉X.fs/\∀v,p.2.data≠.cell v):Inv X pins' σ H s:=
 ⟨I.ok,I.os,I.bare,I.base,I.loc,I.cell,I.free,I.freeC,fun p hp=>(yW.mp hp).elim (fun z=>I.pin p (zA _ z)) (h p),I.hok,I.len⟩
theorem T5 {N:List Str}(hN:N.Nodup) {i j:Nat}{x:Str}(a:N[i]?=some x) (b:N[j]?=some x):i=j:=by
 obtain⟨h1,e1⟩:=yT.mp a
 obtain⟨h2,e2⟩:=yT.mp b
 exact(List.getElem_inj hN).mp (e1.trans e2.symm)
theorem YF {M:Model}{A:Around}{E:Value->Shared->Prop}{i:Nat}{x:Str}{v:V}{u:Value}{Q:Unit->Shared->Prop}(I:Inv X pins σ H s) (hN:X.N.Nodup) (hi:X.N[i]?=some x) (hx:Loc X.env.scope x) (r:RelV v u)
   (h:∀s',Inv X pins (σ.set i (some v)) H s'->(∃a,Heap.SameBut a s.heap s'.heap/\(a=X.env.locals∨X.env.cells.lookup x=some a))->Q () s') (hf:X.fn x=true∨X.env.scope.names.lookup x=some .local:=by first | exact .inl rfl | exact .inr rfl | assumption):wpAny M A (storeName X.env x u) Q E s:=by
 obtain⟨m,hn,hl⟩:=id I.loc
 have hcls:(X.env.scope.kind==.class||(X.env.scope.kind==.module&&X.env.locals != X.env.globals))=false:=by rw[I.ok.kind];rfl
 have hiσ:i < σ.length:=by rw[I.len];exact(yT.mp hi).1
 have cne:=I.cne
 have tracked:∀{a:Addr}{h':Heap},(∃o,s.heap.get? a=some o/\H a=none)->Heap.SameBut a s.heap h'->HOk X.prog X.w H h':=fun {a h'} ha hs b ob e=>by
   obtain⟨_,_,hfree⟩:=ha
   refine(I.hok b ob e).stay (fun c w' hc q=>(hs.2 c ?_).trans q) (fun _ q=>q) fun _ _ q=>q
   rintro rfl
   rcases hc with rfl | hc
   · rw[hfree] at e;cases e
   · rw[hfree] at hc;cases hc
 rcases hx with hk | hk
 · refine wpAny_storeName_local hk hn (fun h' hn' hs=>?_) hcls
   obtain⟨oL,_,_,hoL,_⟩:=id hn
   refine h _ ⟨I.ok,I.os,I.bare,⟨fun b o e n hb hx=>?_,fun b o e n hb hx=>?_,I.base.free,fun b o e hx=>?_,I.base.tups,I.base.frzs,I.base.tbls⟩,⟨_,hn',fun j y v' e1 e2 e3=>?_⟩,fun y c e=>?_,I.free,I.freeC,fun p hp=>?_,tracked ⟨oL,hoL,I.free⟩ hs,by simpa using I.len⟩ ⟨_,hs,.inl rfl⟩
   · exact(hs.2 b (zC (zP (zM e) I.ok.above))).trans (I.base.keep b o e n hb hx)
   · obtain⟨sl,e1⟩:=I.base.slot b o e n hb hx
     exact⟨sl,(hs.2 b (zC (zP (zM e) I.ok.above))).trans e1⟩
   · obtain⟨o',e1⟩:=I.base.there b o e hx
     exact⟨o',(hs.2 b (zC (zP (zM e) I.ok.above))).trans e1⟩
   · by_cases hj:j=i
     · subst hj
       rw[hi] at e1;cases e1
       rw[List.getElem?_set_self hiσ] at e2
       cases e2
       exact⟨u,r,.inl ⟨hk,by simp⟩⟩
     · rw[b3W (b1Q hj)] at e2
       obtain⟨u',r',q⟩:=hl j y v' e1 e2 e3
       refine⟨u',r',?_⟩
       rcases q with ⟨k,e⟩ | ⟨k,c,e,z⟩
       · refine .inl ⟨k,?_⟩
         have:y≠x:=fun e=>hj (T5 hN e1 (e▸hi))
         simp[this,e]
       · exact .inr ⟨k,c,e,z.sameBut hs (cne y c e)⟩
   · obtain⟨w',z⟩:=I.cell y c e
     exact⟨w',z.sameBut hs (cne y c e)⟩
   · obtain⟨e,n,ne,nf,d⟩:=I.pin p hp
     exact⟨(hs.2 p.1 ne).trans e,n,ne,nf,d⟩
 · have hfn:X.fn x=true:=by
     rcases hf with z | z
     · exact z
     · rw[z] at hk;cases hk
   obtain⟨c,hc⟩:=I.ok.has x (.inl hk)
   obtain⟨w',z⟩:=I.cell x c hc
   refine wpAny_storeName_cell I.ok.kind hk hc z (fun h' hc' hs=>?_)
   obtain⟨oc,hoc,hocd⟩:=id z
   refine h { s with heap:=h' } ⟨I.ok,I.os,I.bare,⟨fun b o e n hb hx=>?_,fun b o e n hb hx=>?_,I.base.free,fun b o e hx=>?_,I.base.tups,I.base.frzs,I.base.tbls⟩,⟨m,hn.sameBut hs (b1Q (cne x c hc)),fun j y v' e1 e2 e3=>?_⟩,fun y c' e=>?_,I.free,I.freeC,fun p hp=>?_,tracked ⟨oc,hoc,I.freeC x c hc⟩ hs,by simpa using I.len⟩ ⟨c,hs,.inr hc⟩
   · exact(hs.2 b (zC (zP (zM e) (I.ok.cab x c hfn hc)))).trans (I.base.keep b o e n hb hx)
   · obtain⟨sl,e1⟩:=I.base.slot b o e n hb hx
     exact⟨sl,(hs.2 b (zC (zP (zM e) (I.ok.cab x c hfn hc)))).trans e1⟩
   · obtain⟨o',e1⟩:=I.base.there b o e hx
     exact⟨o',(hs.2 b (zC (zP (zM e) (I.ok.cab x c hfn hc)))).trans e1⟩
   · by_cases hj:j=i
     · subst hj
       rw[hi] at e1;cases e1
       rw[List.getElem?_set_self hiσ] at e2
       cases e2
       exact⟨u,r,.inr ⟨.inl hk,c,hc,hc'⟩⟩
     · rw[b3W (b1Q hj)] at e2
       obtain⟨u',r',q⟩:=hl j y v' e1 e2 e3
       refine⟨u',r',?_⟩
       rcases q with q | ⟨k,c',e,z'⟩
       · exact .inl q
       · refine .inr ⟨k,c',e,z'.sameBut hs ?_⟩
         rintro rfl
         exact hj (T5 hN e1 (I.ok.inj _ _ _ e hc▸hi))
   · by_cases hcc:c'=c
     · subst hcc;exact⟨_,hc'⟩
     · obtain⟨w2,z2⟩:=I.cell y c' e
       exact⟨w2,z2.sameBut hs hcc⟩
   · obtain⟨e,n,ne,nf,d⟩:=I.pin p hp
     refine⟨(hs.2 p.1 ?_).trans e,n,ne,nf,d⟩
     intro q
     rw[q,hoc] at e
     have q':oc=p.2:=Option.some.inj e
     exact d w' (by rw[← q'];exact hocd)
theorem JV {M:Model}{A:Around}{E:Value->Shared->Prop}{i:Nat}{x:Str}{v:V}{u:Value}{Q:Unit->Shared->Prop}(I:Inv X pins σ H s) (hN:X.N.Nodup) (hi:X.N[i]?=some x) (hx:Loc X.env.scope x) (r:RelV v u)
   (h:∀s',Inv X pins (σ.set i (some v)) H s'->Q () s') (hf:X.fn x=true∨X.env.scope.names.lookup x=some .local:=by first | exact .inl rfl | exact .inr rfl | assumption):wpAny M A (storeName X.env x u) Q E s:=
 YF I hN hi hx r (fun s' I' _=>h s' I') hf
theorem Inv.call' {s':Shared}{ch:List Addr}(I:Inv X pins σ H s) (ho:s'.os=s.os) (u:Un (frs X.stack) ch H H' s.heap s'.heap) (hok:HOk X.prog X.w H' s'.heap) (hg:AllBare s'.gens)
   (hch:∀b∈ch,(b∈X.ex∨X.s₀.heap.objs.size<=b)/\b≠X.env.locals/\(∀x c,X.env.cells.lookup x=some c->c≠b)/\∀p∈X.pn++pins,p.1≠b):Inv X pins σ H' s':=by
 obtain⟨h',g',d',t',o'⟩:=s'
 have e:o'=s.os:=ho
 subst e
 exact I.call (g':=g') (t':=t') (d':=d') u hok hg hch
end
abbrev XK:=Value->Option Addr->Hp->Prop
abbrev St:=List (Option V)
abbrev VK:=V->Hp->Prop
abbrev TE:=St->Hp->VK->Prop
abbrev TT:=St->Hp->(Bool->Hp->Prop)->Prop
abbrev TA:=St->Hp->(List V->Hp->Prop)->Prop
structure Ends where
 nx:St->Hp->Prop
 rt:VK
 bk:St->Hp->Prop:=fun _ _=>False
 ct:St->Hp->Prop:=fun _ _=>False
abbrev TS:=Ends->St->Hp->Prop
def EP (X:Cx) (pins:List (Addr×Obj)) (σ:St) (Q:VK) (u:Value) (s':Shared):Prop:=∃v H',Inv X pins σ H' s'/\RelV v u/\Q v H'
def TP (X:Cx) (pins:List (Addr×Obj)) (σ:St) (Q:Bool->Hp->Prop) (b:Bool) (s':Shared):Prop:=∃H',Inv X pins σ H' s'/\Q b H'
def AP (X:Cx) (pins:List (Addr×Obj)) (σ:St) (Q:List V->Hp->Prop) (us:List Value) (s':Shared):Prop:=∃vs H',Inv X pins σ H' s'/\Vals vs us/\Q vs H'
def SP (X:Cx) (pins:List (Addr×Obj)) (D:Ends) (f:Flow) (s':Shared):Prop:=
 match f with
 | .next=>∃σ' H',Inv X pins σ' H' s'/\D.nx σ' H'
 | .brk=>∃σ' H',Inv X pins σ' H' s'/\D.bk σ' H'
 | .cont=>∃σ' H',Inv X pins σ' H' s'/\D.ct σ' H'
 | .ret u=>∃v σ' H',Inv X pins σ' H' s'/\RelV v u/\D.rt v H'
def PE (X:Cx) (e:Expr) (t:TE):Prop:=
 ∀(pins:List (Addr×Obj)) (s:Shared) (σ:St) (H:Hp) (Q:VK),Inv X pins σ H s->t σ H Q->wpAny (model X.prog X.w) X.A (eval e X.env) (EP X pins σ Q) X.xe s
def PT (X:Cx) (e:Expr) (t:TT):Prop:=
 ∀(pins:List (Addr×Obj)) (s:Shared) (σ:St) (H:Hp) (Q:Bool->Hp->Prop),Inv X pins σ H s->t σ H Q->wpAny (model X.prog X.w) X.A (isTrue e X.env (eval e X.env)) (TP X pins σ Q) X.xe s
def PW (X:Cx) (e:Expr) (t:TT):Prop:=
 ∀(whole:Sem Value) (pins:List (Addr×Obj)) (s:Shared) (σ:St) (H:Hp) (Q:Bool->Hp->Prop),Inv X pins σ H s->t σ H Q->wpAny (model X.prog X.w) X.A (isTrue e X.env whole) (TP X pins σ Q) X.xe s
theorem PW.pt {X:Cx}{e:Expr}{t:TT}(h:PW X e t):PT X e t:=h _
def PA (X:Cx) (es:List Expr) (t:TA):Prop:=
 ∀(pos:Pos) (pins:List (Addr×Obj)) (s:Shared) (σ:St) (H:Hp) (Q:List V->Hp->Prop),Inv X pins σ H s->t σ H Q->wpAny (model X.prog X.w) X.A (spliced (backTo pos (starEach es X.env))) (AP X pins σ Q) X.xe s
def PS (X:Cx) (st:Stmt) (t:TS):Prop:=
 ∀(pins:List (Addr×Obj)) (s:Shared) (σ:St) (H:Hp) (D:Ends),Inv X pins σ H s->t D σ H->wpAny (model X.prog X.w) X.A (exec st X.env) (SP X pins D) X.xe s
def PSs (X:Cx) (st:List Stmt) (t:TS):Prop:=
 ∀(pins:List (Addr×Obj)) (s:Shared) (σ:St) (H:Hp) (D:Ends),Inv X pins σ H s->t D σ H->wpAny (model X.prog X.w) X.A (execs st X.env) (SP X pins D) X.xe s
theorem thn {α:Type}{t:Sem α}{Q Q':α->Shared->Prop}{M:Model}{A:Around}{E:Value->Shared->Prop}{s:Shared}(h:wpAny M A t Q E s) (hQ:∀a s,Q a s->Q' a s):wpAny M A t Q' E s:=wpAny_mono h hQ fun _ _ x=>x
section
variable {X:Cx}
def fM (i:Nat):TE:=fun σ H Q=>∃v,σ[i]?=some (some v)/\Q v H
def tC (v:V):TE:=fun _ H Q=>Q v H
theorem aL {i:Nat}{x:Str}{pos:Pos}(hN:X.N[i]?=some x) (hv:Vis X.env.scope x) (hd:(x==("__debug__":Str))=false:=by decide) (hcd:(x==("__classdict__":Str))=false:=by decide):PE X (.Name x pos) (fM i):=by
 intro pins s σ H Q I h
 obtain⟨v,e,h⟩:=h
 obtain⟨m,hn,hl⟩:=I.loc
 obtain⟨u,r,l⟩:=hl i x v hN e hv
 have fin:EP X pins σ Q u s:=⟨v,H,I,r,h⟩
 rcases l with ⟨hk,hm⟩ | ⟨hk,c,hc,hcell⟩
 · exact wpAny_Name (wpAny_loadName_local I.ok.kind hk hn hm fin) hd
 · rcases hk with hk | hk
   · exact wpAny_Name (wpAny_loadName_cell I.ok.kind hk hc hcell fin) hd
   · exact wpAny_Name (wpAny_loadName_free I.ok.kind hk hc hcell fin hcd) hd
theorem kP {i j pos}:PE X (.Constant (.int i) j pos) (tC (.int i)):=fun _ _ _ H _ I h=>wpAny_Constant_int ⟨.int i,H,I.tok _,⟨_,rfl⟩,h⟩
theorem oH {b j pos}:PE X (.Constant (.bool b) j pos) (tC (.bl b)):=fun _ _ _ H _ I h=>Constant_bool ⟨.bl b,H,I,rfl,h⟩
theorem kQ {j pos}:PE X (.Constant .none j pos) (tC .non):=fun _ _ _ H _ I h=>Constant_none ⟨.non,H,I,rfl,h⟩
theorem kR {x j pos}:PE X (.Constant (.str x) j pos) (tC (.str x)):=fun _ _ _ H _ I h=>Calls.Constant_str ⟨.str x,H,I.tok _,⟨_,rfl⟩,h⟩
def Gl (X:Cx) (x:Str):Prop:=X.env.kindOf x=some .globalImplicit
theorem QU {E:Value->Shared->Prop}{pins:List (Addr×Obj)}{s:Shared}{σ:St}{H:Hp}{x:Str}{u:Value}{pos:Pos}{Q:Value->Shared->Prop}(I:Inv X pins σ H s) (hg:Gl X x) (hm:X.mg x=some u) (h:Q u s)
   (hd:(x==("__debug__":Str))=false:=by decide):wpAny (model X.prog X.w) X.A (eval (.Name x pos) X.env) Q E s:=
 Calls.Name_function_global I.ok.kind hg (Calls.loadGlobal_global (by rw[I.ok.glob];exact I.mod.glob.keeps I.bk) hm h) hd
theorem G5 {E:Value->Shared->Prop}{pins:List (Addr×Obj)}{s:Shared}{σ:St}{H:Hp}{x:Str}{u:Value}{pos:Pos}{Q:Value->Shared->Prop}(I:Inv X pins σ H s) (hg:Gl X x) (hm:X.mg x=none) (hv:bootBuiltins x=some u) (h:Q u s)
   (hn:x ≠ "__name__" := by decide) (hd:(x==("__debug__":Str))=false:=by decide):wpAny (model X.prog X.w) X.A (eval (.Name x pos) X.env) Q E s:=by
 obtain⟨mb,h1,h2⟩:=I.mod.blt
 exact Calls.Name_function_global I.ok.kind hg (Calls.loadGlobal_builtin (by rw[I.ok.glob];exact I.mod.glob.keeps I.bk) hm (by rw[I.ok.blt];exact h1.keeps I.bk) ((h2 x hn).trans hv) h) hd
theorem fN {x:Str}{v:V}{u:Value}{pos:Pos}(hg:Gl X x) (hm:X.mg x=some u) (r:RelV v u) (hd:(x==("__debug__":Str))=false:=by decide):PE X (.Name x pos) (tC v):=
 fun _ _ _ H _ I h=>QU I hg hm ⟨v,H,I,r,h⟩ hd
theorem G6 {x:Str}{v:V}{u:Value}{pos:Pos}(hg:Gl X x) (hm:X.mg x=none) (hv:bootBuiltins x=some u) (r:RelV v u) (hn:x ≠ "__name__" := by decide) (hd:(x==("__debug__":Str))=false:=by decide):PE X (.Name x pos) (tC v):=
 fun _ _ _ H _ I h=>G5 I hg hm hv ⟨v,H,I,r,h⟩ hn hd
variable {a b:Expr}{ta tb:TE}{pos:Pos}
def PC (X:Cx) (op:CmpOp) (a b:Expr) (t:TE):Prop:=
 ∀(pins:List (Addr×Obj)) (s:Shared) (σ:St) (H:Hp) (Q:VK),Inv X pins σ H s->t σ H Q ->
   wpAny (model X.prog X.w) X.A (eval a X.env) (fun v s₁=>wpAny (model X.prog X.w) X.A (eval b X.env) (fun u s₂=>wpAny (model X.prog X.w) X.A (compareOp op v u) (EP X pins σ Q) X.xe s₂) X.xe s₁) X.xe s
def tB (t:TE):TT:=fun σ H Q=>t σ H fun x H1=>∃c,x = .bl c/\Q c H1
theorem VF {op:CmpOp}{t:TE}(h:PC X op a b t) (h1:behindInMarks op b=false:=by first | exact nobehind _ (by decide) (by decide) | rfl):PT X (.Compare a [op] [b] pos) (tB t):=by
 intro pins s σ H Q I hw
 refine wpAny_isTrue_Compare1 (thn (h pins s σ H _ I hw) fun v s1 h1=>thn h1 fun u s2 h2=>thn h2 fun c s3 ⟨x,H1,I1,r1,q1⟩=>?_) h1
 obtain⟨d,rfl,q⟩:=q1
 cases r1
 exact wpAny_truthy_bool ⟨H1,I1,q⟩
theorem kS {e:Expr}{t:TE}(h:PE X e t) (he:∀whole,isTrue e X.env whole=(do let v ← whole;standAt e.pos;holding [v] (truthy v)):=by intro _;rfl):PT X e (tB t):=by
 intro pins s σ H Q I hw
 refine isTrue_plain (thn (h pins s σ H _ I hw) fun v s1 ⟨x,H1,I1,r1,q1⟩=>?_) (he _)
 obtain⟨d,rfl,q⟩:=q1
 cases r1
 exact wpAny_truthy_bool ⟨H1,I1,q⟩
variable {tA tB':TT}{rest:List Expr}
def oI (t u:TT):TT:=fun σ H Q=>t σ H fun c H1=>if c=true then u σ H1 Q else Q false H1
def tOr (t u:TT):TT:=fun σ H Q=>t σ H fun c H1=>if c=true then Q true H1 else u σ H1 Q
def oJ (t:TT):TT:=fun σ H Q=>t σ H fun c H1=>Q (!c) H1
theorem pw_and1 (ha:PT X a tA):PW X (.BoolOp .And [a] pos) tA:=by
 intro wh pins s σ H Q I h
 refine isTrue_and (thn (ha pins s σ H Q I h) fun c s1 e=>?_)
 cases c with
 | true=>exact isTrue_and_nil e
 | false=>exact e
theorem pw_or1 (ha:PT X a tA):PW X (.BoolOp .Or [a] pos) tA:=by
 intro wh pins s σ H Q I h
 refine isTrue_or (thn (ha pins s σ H Q I h) fun c s1 e=>?_)
 cases c with
 | false=>exact isTrue_or_nil e
 | true=>exact e
theorem pw_and (ha:PT X a tA) (hb:PW X (.BoolOp .And (b::rest) pos) tB'):PW X (.BoolOp .And (a::b::rest) pos) (oI tA tB'):=by
 intro wh pins s σ H Q I h
 refine isTrue_and (thn (ha pins s σ H _ I h) fun c s1 ⟨H1,I1,q1⟩=>?_)
 cases c with
 | true=>exact hb wh pins s1 σ H1 Q I1 q1
 | false=>exact⟨H1,I1,q1⟩
theorem pw_or (ha:PT X a tA) (hb:PW X (.BoolOp .Or (b::rest) pos) tB'):PW X (.BoolOp .Or (a::b::rest) pos) (tOr tA tB'):=by
 intro wh pins s σ H Q I h
 refine isTrue_or (thn (ha pins s σ H _ I h) fun c s1 ⟨H1,I1,q1⟩=>?_)
 cases c with
 | true=>exact⟨H1,I1,q1⟩
 | false=>exact hb wh pins s1 σ H1 Q I1 q1
theorem kT (ha:PT X a tA):PT X (.UnaryOp .Not a pos) (oJ tA):=by
 intro pins s σ H Q I h
 exact isTrue_not (ha pins s σ H (fun c H1=>Q (!c) H1) I h)
def jF (ta tb:TE):TE:=fun σ H Q=>ta σ H fun x H1=>∃c,x = .bl c/\if c=true then tb σ H1 Q else Q (.bl false) H1
def jG (ta:TE):TE:=fun σ H Q=>ta σ H fun x H1=>∃c,x = .bl c/\Q (.bl (!c)) H1
theorem kU {op} {t:TE}(h:PE X a t):PE X (.BoolOp op [a] pos) t:=fun pins s σ H Q I hw=>BoolOp_one (h pins s σ H Q I hw)
theorem kW (ha:PE X a ta) (hb:PE X (.BoolOp .And (b::rest) pos) tb):PE X (.BoolOp .And (a::b::rest) pos) (jF ta tb):=by
 intro pins s σ H Q I h
 refine BoolOp_and (thn (ha pins s σ H _ I h) fun v s1 ⟨x,H1,I1,r1,q1⟩=>?_)
 obtain⟨c,rfl,q1⟩:=q1
 cases r1
 refine wpAny_truthy_bool ?_
 cases c with
 | true=>exact hb pins s1 σ H1 Q I1 q1
 | false=>exact⟨.bl false,H1,I1,rfl,q1⟩
theorem kX (ha:PE X a ta):PE X (.UnaryOp .Not a pos) (jG ta):=by
 intro pins s σ H Q I h
 refine UnaryOp_ (thn (ha pins s σ H _ I h) fun v s1 ⟨x,H1,I1,r1,q1⟩=>?_)
 obtain⟨c,rfl,q1⟩:=q1
 cases r1
 exact not_of (wpAny_truthy_bool ⟨.bl (!c),H1,I1,rfl,q1⟩)
def tIf (t:TT) (ta tb:TE):TE:=fun σ H Q=>t σ H fun c H1=>if c=true then ta σ H1 Q else tb σ H1 Q
theorem aM {c:Expr}(hc:PT X c tA) (ha:PE X a ta) (hb:PE X b tb):PE X (.IfExp c a b pos) (tIf tA ta tb):=by
 intro pins s σ H Q I h
 refine wpAny_IfExp (thn (hc pins s σ H _ I h) fun d s1 ⟨H1,I1,q1⟩=>?_)
 cases d with
 | true=>exact ha pins s1 σ H1 Q I1 q1
 | false=>exact hb pins s1 σ H1 Q I1 q1
end
def SqL (K:Frg) (H:Hp) (a:Addr) (xs:List V):Prop:=
 Rd H a (.lst xs) ∨
   ∃(o:Obj) (its:Array Value) (n:Nat),K.lookup a=some o/\o.cls = .type "list" /\ o.dict=none/\o.data = .seq its n/\its.size<=sizeLine/\Vals xs its.toList
def SqT (K:Frg) (H:Hp) (a:Addr) (xs:List V):Prop:=
 Rd H a (.tup xs) ∨
   ∃(o:Obj) (its:Array Value) (n:Nat),K.lookup a=some o/\o.cls = .type "tuple" /\ o.data = .seq its n/\its.size<=sizeLine/\Vals xs its.toList
def qH:Value->Option V
 | .none=>some .non
 | .bool b=>some (.bl b)
 | .int i _=>some (.int i)
 | .str x _=>some (.str x)
 | .bytes b _=>some (.byt b)
 | .float b _=>some (.flt b)
 | .ref a=>some (.ref a)
 | .type n=>some (.ty n)
 | _=>none
theorem RelV.abs {x:V}{u:Value}(r:RelV x u):qH u=some x:=by
 cases x with
 | non=>cases r;rfl
 | bl _=>cases r;rfl
 | int _=>obtain⟨t,rfl⟩:=r;rfl
 | str _=>obtain⟨t,rfl⟩:=r;rfl
 | byt _=>obtain⟨t,rfl⟩:=r;rfl
 | flt _=>obtain⟨t,rfl⟩:=r;rfl
 | ref _=>cases r;rfl
 | ty _=>cases r;rfl
theorem RelV.inj {x y:V}{u:Value}(r:RelV x u) (q:RelV y u):x=y:=Option.some.inj (r.abs.symm.trans q.abs)
theorem Vals.inj:∀{xs ys:List V}{us:List Value},Vals xs us->Vals ys us->xs=ys
 | _,_,_,.nil,.nil=>rfl
 | _,_,_,.cons r t,.cons r' t'=>by rw[r.inj r',Vals.inj t t']
section
variable {X:Cx}{pins:List (Addr×Obj)}{σ:St}{H:Hp}{s:Shared}{a:Addr}{xs ys:List V}
theorem SqL.of {K:Frg}(h:H a=some (.lst xs)):SqL K H a xs:=.inl (.inl h)
theorem Inv.list (I:Inv X pins σ H s) (h:SqL X.K H a xs):∃its:List Value,Vals xs its/\PlainL s.heap a its.toArray/\xs.length<=sizeLine:=by
 rcases h with h | ⟨o,its,n,hk,hc,hd,hs,hz,r⟩
 · obtain⟨z,its,n,r,e⟩:=h.ok I.hok
   exact⟨its,r,⟨_,n,e,rfl,rfl,rfl⟩,z⟩
 · refine⟨its.toList,r,⟨o,n,I.kIn a o hk,hc,hd,by simpa using hs⟩,?_⟩
   have e:=r.length
   simp only[a4Q] at e
   omega
theorem Inv.tuple (I:Inv X pins σ H s) (h:SqT X.K H a xs):∃its:List Value,Vals xs its/\IsTup s.heap a its.toArray/\xs.length<=sizeLine:=by
 rcases h with h | ⟨o,its,n,hk,hc,hs,hz,r⟩
 · obtain⟨z,its,r,p⟩:=h.ok I.hok
   exact⟨its,r,p,z⟩
 · refine⟨its.toList,r,⟨o,I.kIn a o hk,hc,n,by simpa using hs⟩,?_⟩
   have e:=r.length
   simp only[a4Q] at e
   omega
theorem Inv.list_inj (I:Inv X pins σ H s) (h:SqL X.K H a xs) (h':SqL X.K H a ys):xs=ys:=by
 obtain⟨its,r,⟨o,n,e,_,_,d⟩,_⟩:=I.list h
 obtain⟨its',r',⟨o',n',e',_,_,d'⟩,_⟩:=I.list h'
 rw[e] at e';cases e'
 rw[d] at d'
 injection d' with d1 _
 have:its=its':=by simpa using congrArg Array.toList d1
 subst this
 exact r.inj r'
theorem Inv.tuple_inj (I:Inv X pins σ H s) (h:SqT X.K H a xs) (h':SqT X.K H a ys):xs=ys:=by
 obtain⟨its,r,⟨o,e,_,n,d⟩,_⟩:=I.tuple h
 obtain⟨its',r',⟨o',e',_,n',d'⟩,_⟩:=I.tuple h'
 rw[e] at e';cases e'
 rw[d] at d'
 injection d' with d1 _
 have:its=its':=by simpa using congrArg Array.toList d1
 subst this
 exact r.inj r'
end
abbrev Cx.wish (X:Cx) (E:Value->Shared->Prop):Cx:={ X with xe:=E }
abbrev Cx.nox (X:Cx):Cx:=X.wish fun _ _=>False
theorem Cx.Ok.wish {X:Cx}(ok:X.Ok) (E:Value->Shared->Prop):(X.wish E).Ok:=
 ⟨ok.mod,ok.kind,ok.glob,ok.blt,ok.above,ok.inj,ok.has,ok.cab,ok.hd,ok.frames,ok.stk,ok.exf,ok.bs,ok.bsz,ok.noex,ok.exfs,ok.funs,ok.frf⟩
theorem Cx.Ok.unwish {X:Cx}{E:Value->Shared->Prop}(ok:(X.wish E).Ok):X.Ok:=
 ⟨ok.mod,ok.kind,ok.glob,ok.blt,ok.above,ok.inj,ok.has,ok.cab,ok.hd,ok.frames,ok.stk,ok.exf,ok.bs,ok.bsz,ok.noex,ok.exfs,ok.funs,ok.frf⟩
section
variable {X:Cx}{pins:List (Addr×Obj)}{σ:St}{H:Hp}{s:Shared}{E:Value->Shared->Prop}
theorem Inv.wish (I:Inv X pins σ H s) (E:Value->Shared->Prop):Inv (X.wish E) pins σ H s:=⟨I.ok.wish E,I.os,I.bare,I.base,I.loc,I.cell,I.free,I.freeC,I.pin,I.hok,I.len⟩
theorem Inv.unwish (I:Inv (X.wish E) pins σ H s):Inv X pins σ H s:=⟨I.ok.unwish,I.os,I.bare,I.base,I.loc,I.cell,I.free,I.freeC,I.pin,I.hok,I.len⟩
theorem SP.unwish {D:Ends}{f:Flow}{s':Shared}(h:SP (X.wish E) pins D f s'):SP X pins D f s':=by
 cases f with
 | next=>obtain⟨σ',H',I,q⟩:=h;exact⟨σ',H',I.unwish,q⟩
 | brk=>obtain⟨σ',H',I,q⟩:=h;exact⟨σ',H',I.unwish,q⟩
 | cont=>obtain⟨σ',H',I,q⟩:=h;exact⟨σ',H',I.unwish,q⟩
 | ret u=>obtain⟨v,σ',H',I,r,q⟩:=h;exact⟨v,σ',H',I.unwish,r,q⟩
theorem PSs.nox {st:List Stmt}{t:TS}(h:PSs X.nox st t):PSs X st t:=fun pins s σ H D I hw=>
 wpAny_mono (h pins s σ H D (I.wish _) hw) (fun _ _ q=>q.unwish) fun _ _ z=>b1K z
end
section
variable {X:Cx}{st:Stmt}{rest:List Stmt}{t u:TS}{e:Expr}{te:TE}{pos:Pos}
def jH:TS:=fun D σ H=>D.nx σ H
def kY (t u:TS):TS:=fun D σ H=>t { D with nx:=u D } σ H
theorem fQ:PSs X [] jH:=fun _ _ σ H _ I h=>wpAny_execs_nil ⟨σ,H,I,h⟩
theorem T6 (h1:PS X st t) (h2:PSs X rest u):PSs X (st::rest) (kY t u):=by
 intro pins s σ H D I h
 refine wpAny_execs_cons (thn (h1 pins s σ H { D with nx:=u D } I h) fun f s1 q=>?_)
 cases f with
 | next=>
   obtain⟨σ',H',I',q⟩:=q
   exact h2 pins s1 σ' H' D I' q
 | ret v=>exact q
 | brk=>exact q
 | cont=>exact q
theorem X2 (h1:PS X st t):PSs X [st] t:=by
 intro pins s σ H D I h
 refine wpAny_execs_cons (thn (h1 pins s σ H D I h) fun f s1 q=>?_)
 cases f with
 | next=>exact wpAny_execs_nil q
 | ret v=>exact q
 | brk=>exact q
 | cont=>exact q
def jI:TS:=fun D σ H=>D.ct σ H
theorem T7:PS X (.Continue pos) jI:=fun _ _ σ H _ I h=>wpAny_Continue ⟨σ,H,I,h⟩
theorem Inv.quiet {pins:List (Addr×Obj)}{σ:St}{H:Hp}{s:Shared}(I:Inv X pins σ H s):interactive X.env=false:=by simp[interactive,I.ok.kind]
def jJ (te:TE):TS:=fun D σ H=>te σ H fun _ H1=>D.nx σ H1
theorem fR (he:PE X e te) (hs:swapsWith e none pos.line X.env=pure false:=by rfl):PS X (.Expr e pos) (jJ te):=by
 intro pins s σ H D I h
 exact wpAny_Expr_any (thn (he pins s σ H _ I h) fun v s1 ⟨x,H1,I1,r1,q1⟩=>⟨σ,H1,I1,q1⟩) I.quiet hs
def oK (te:TE):TS:=fun D σ H=>te σ H D.rt
theorem kZ (he:PE X e te):PS X (.Return (some e) pos) (oK te):=by
 intro pins s σ H D I h
 exact wpAny_Return_some (thn (he pins s σ H _ I h) fun v s1 ⟨x,H1,I1,r1,q1⟩=>⟨x,σ,H1,I1,r1,q1⟩)
def oM (c:TT) (t u:TS):TS:=fun D σ H=>c σ H fun b H1=>if b=true then t D σ H1 else u D σ H1
theorem jK {c:Expr}{a b:List Stmt}{tc:TT}(hc:PT X c tc) (ha:PSs X a t) (hb:PSs X b u):PS X (.If c a b pos) (oM tc t u):=by
 intro pins s σ H D I h
 refine wpAny_If (thn (hc pins s σ H _ I h) fun d s1 ⟨H1,I1,q1⟩=>?_)
 cases d with
 | true=>exact ha pins s1 σ H1 D I1 q1
 | false=>exact hb pins s1 σ H1 D I1 q1
def aN:TS:=fun _ _ _=>False
theorem aO:PS X st aN:=fun _ _ _ _ _ _ h=>h.elim
theorem YG {sts:List Stmt}:PSs X sts aN:=fun _ _ _ _ _ _ h=>h.elim
end
abbrev TG:=V->St->Hp->(St->Hp->Prop)->Prop
abbrev TGs:=List V->St->Hp->(St->Hp->Prop)->Prop
def PG (X:Cx) (target:Expr) (t:TG):Prop:=
 ∀(pins:List (Addr×Obj)) (s:Shared) (σ:St) (H:Hp) (v:V) (u:Value) (Q:St->Hp->Prop),Inv X pins σ H s->RelV v u->t v σ H Q ->
   wpAny (model X.prog X.w) X.A (assign target X.env u) (fun _ s'=>∃σ' H',Inv X pins σ' H' s'/\Q σ' H') X.xe s
def PGs (X:Cx) (ts:List Expr) (t:TGs):Prop:=
 ∀(pins:List (Addr×Obj)) (s:Shared) (σ:St) (H:Hp) (vs:List V) (us:List Value) (Q:St->Hp->Prop),Inv X pins σ H s->Vals vs us->t vs σ H Q ->
   wpAny (model X.prog X.w) X.A (assignInOrder ((assignEach ts X.env).map (·.2)) us) (fun _ s'=>∃σ' H',Inv X pins σ' H' s'/\Q σ' H') X.xe s
abbrev l0:=V->V->V->Hp->(Hp->Prop)->Prop
def oN (X:Cx) (t:l0):Prop:=
 ∀(pins:List (Addr×Obj)) (s:Shared) (σ:St) (H:Hp) (o i v:V) (ov iv u:Value) (Q:Hp->Prop),Inv X pins σ H s->RelV o ov->RelV i iv->RelV v u->t o i v H Q ->
   wpAny (model X.prog X.w) X.A (setItem ov iv u) (fun _ s'=>∃H',Inv X pins σ H' s'/\Q H') X.xe s
section
variable {X:Cx}{pos:Pos}
def N5 (i:Nat):TG:=fun v σ H Q=>Q (σ.set i (some v)) H
theorem QV {i:Nat}{x:Str}(hN:X.N.Nodup) (hi:X.N[i]?=some x) (hx:Loc X.env.scope x) (hf:X.fn x=true∨X.env.scope.names.lookup x=some .local:=by first | exact .inl rfl | exact .inr rfl | assumption):PG X (.Name x pos) (N5 i):=by
 intro pins s σ H v u Q I r h
 exact wpAny_assign_Name (JV I hN hi hx r (fun s' I'=>⟨_,H,I',h⟩) hf)
def l3:TGs:=fun vs σ H Q=>vs=[]/\Q σ H
def X3 (t:TG) (u:TGs):TGs:=fun vs σ H Q=>∃v r,vs=v::r/\t v σ H fun σ' H'=>u r σ' H' Q
theorem fS:PGs X [] l3:=by
 intro pins s σ H vs us Q I r h
 obtain⟨e,h⟩:=h
 subst e
 cases r
 exact assignInOrder_nil ⟨σ,H,I,h⟩
theorem aP {e:Expr}{es:List Expr}{t:TG}{u:TGs}(h1:PG X e t) (h2:PGs X es u)
   (hs:(assignEach (e::es) X.env).map (·.2)=assign e X.env::(assignEach es X.env).map (·.2):=by rfl):PGs X (e::es) (X3 t u):=by
 intro pins s σ H vs us Q I r h
 obtain⟨v,vr,e1,h⟩:=h
 subst e1
 cases r with
 | cons r rr=>
   rw[hs]
   refine assignInOrder_cons (thn (h1 pins s σ H _ _ _ I r h) fun _ s1 ⟨σ1,H1,I1,q1⟩=>?_)
   exact h2 pins s1 σ1 H1 _ _ Q I1 rr q1
def fT (K:Frg) (n:Nat) (t:TGs):TG:=fun v σ H Q=>∃a xs,v = .ref a/\SqT K H a xs/\xs.length=n/\t xs σ H Q
theorem aQ {es:List Expr}{k:Nat}{t:TGs}{n:Nat}(hc:X.calm=true) (h:PGs X es t)
   (hn:(assignEach es X.env).length=n:=by rfl) (hst:(assignEach es X.env).findIdx? (·.1)=none:=by rfl):PG X (.Tuple es k pos) (fT X.K n t):=by
 intro pins s σ H v u Q I r hw
 obtain⟨a,xs,e1,hq,hl,hw⟩:=hw
 subst e1
 cases r
 obtain⟨its,rv,ht,hz⟩:=I.tuple hq
 refine assign_Tuple_tuple (I.ok.hd hc) ht (by simp[hn,← hl,rv.length]) hst fun h' hx=>?_
 have I1:Inv X pins σ H { s with heap:=h' }:=I.kept (t':=s.toks) fun b o e=>hx b o (zC (zM e)) e
 exact h pins _ σ H xs _ Q I1 (by simpa using rv) hw
def oO (to ti:TE) (t:l0):TG:=fun v σ H Q=>to σ H fun o H1=>ti σ H1 fun i H2=>t o i v H2 fun H3=>Q σ H3
theorem l4 {o i:Expr}{to ti:TE}{t:l0}(ho:PE X o to) (hi:PE X i ti) (hs:oN X t)
   (ha:∀v,assign (.Subscript o i pos) X.env v=(do
     let ov ← holding [v] (eval o X.env)
     let iv ← holding [v,ov] (eval i X.env)
     standAt pos
     holding [v,ov,iv] (setItem ov iv v)
     release [v,ov,iv] []):=by intro _;rfl):PG X (.Subscript o i pos) (oO to ti t):=by
 intro pins s σ H v u Q I r h
 rw[ha]
 refine zZ (wpAny_holding (thn (ho pins s σ H _ I h) fun ov s1 ⟨x,H1,I1,r1,q1⟩=>?_))
 refine zZ (wpAny_holding (thn (hi pins s1 σ H1 _ I1 q1) fun iv s2 ⟨y,H2,I2,r2,q2⟩=>?_))
 refine zZ (wpAny_standAt (zZ (wpAny_holding (thn (hs pins s2 σ H2 x y v ov iv u _ I2 r1 r2 r q2) fun _ s3 ⟨H3,I3,q3⟩=>?_))))
 exact wpAny_release ⟨σ,H3,I3,q3⟩
def fU (te:TE) (g:TG):TS:=fun D σ H=>te σ H fun x H1=>g x σ H1 D.nx
theorem VG {tg e:Expr}{te:TE}{g:TG}(he:PE X e te) (hg:PG X tg g) (hs:swapsWithSole [tg] e pos.line X.env=pure false:=by rfl) (hw:swappedStores [tg] e X.env=pure none:=by rfl)
   (h1:(assignEach [tg] X.env).map (·.2)=[assign tg X.env]:=by rfl):PS X (.Assign [tg] e pos) (fU te g):=by
 intro pins s σ H D I h
 refine wpAny_Assign_stores (thn (he pins s σ H _ I h) fun v s1 ⟨x,H1,I1,r1,q1⟩=>?_) hs hw
 rw[h1]
 exact thn (hg pins s1 σ H1 x v _ I1 r1 q1) fun _ s2 q=>q
theorem l5 {i:Nat}{x:Str}{e:Expr}{te:TE}{pos':Pos}(hN:X.N.Nodup) (hi:X.N[i]?=some x) (hx:Loc X.env.scope x) (he:PE X e te) (hs:swapsWith e (some (.Name x pos')) pos.line X.env=pure false:=by rfl) (hf:X.fn x=true∨X.env.scope.names.lookup x=some .local:=by first | exact .inl rfl | exact .inr rfl | assumption) :
   PS X (.Assign [.Name x pos'] e pos) (fU te (N5 i)):=by
 intro pins s σ H D I h
 refine wpAny_Assign_Name (thn (he pins s σ H _ I h) fun v s1 ⟨y,H1,I1,r1,q1⟩=>?_) hs
 exact JV I1 hN hi hx r1 (fun s2 I2=>⟨_,H1,I2,q1⟩) hf
def oP (i j:Nat) (ta:TA):TS:=fun D σ H=>ta σ H fun vs H1=>∃v w,vs=[v,w]/\D.nx ((σ.set i (some v)).set j (some w)) H1
theorem l6 {i j:Nat}{x y:Str}{a b:Expr}{ta:TA}{px py pt:Pos}{kt k2 pt2} (hc:X.calm=true) (hN:X.N.Nodup) (hi:X.N[i]?=some x) (hj:X.N[j]?=some y) (hij:i≠j)
   (hx:X.env.scope.names.lookup x=some .local) (hy:X.env.scope.names.lookup y=some .local) (ha:PA X [a,b] ta)
   (hw:swappedStores [.Tuple [.Name x px,.Name y py] kt pt] (.Tuple [a,b] k2 pt2) X.env=pure (some [x,y]))
   (hs:swapsWithSole [.Tuple [.Name x px,.Name y py] kt pt] (.Tuple [a,b] k2 pt2) pos.line X.env=pure false:=by rfl) :
   PS X (.Assign [.Tuple [.Name x px,.Name y py] kt pt] (.Tuple [a,b] k2 pt2) pos) (oP i j ta):=by
 intro pins s σ H D I h
 rw[exec_Assign_arm]
 refine zZ (wpAny_standAt ?_)
 rw[hs]
 refine zZ (zY ?_)
 rw[if_neg (by decide)]
 refine zZ (Tuple_ (thn (ha _ pins s σ H _ I h) fun us s1 ⟨vs,H1,I1,r1,q1⟩=>?_))
 obtain⟨v,w,e1,q1⟩:=q1
 subst e1
 obtain⟨u1,u2,rfl,rv,rw'⟩:∃u1 u2,us=[u1,u2]/\RelV v u1/\RelV w u2:=by
   cases r1 with
   | cons p q=>
     cases q with
     | cons p' q'=>
       cases q'
       exact⟨_,_,rfl,p,p'⟩
 refine xM ?_ (by show 2<=sizeLine;decide)
 have I2:Inv X pins σ H1 { s1 with heap:=s1.heap.push { cls:=.type "tuple", data:=.seq [u1,u2].toArray } }:=I1.kept (t':=s1.toks) fun b o e=>zW _ e
 rw[hw]
 refine zZ (zY ?_)
 show wpAny (model X.prog X.w) X.A (do rule "assign.swapped-stores";let items ← unpackItems (.ref s1.heap.objs.size) 2 none;assignInOrder [fun v=>bindName X.env y v,fun v=>bindName X.env x v] items.reverse;pure Flow.next) _ _ _
 refine zZ (wpAny_rule (zZ (unpackItems_tuple (items:=#[u1,u2]) (I.ok.hd hc) (IsTup.new s1.heap _) fun h' hx'=>?_)))
 have I3:=I2.kept (h':=h') (t':=s1.toks) fun b o e=>hx' b o (zC (zM e)) e
 show wpAny _ _ (assignInOrder [fun v=>bindName X.env y v,fun v=>bindName X.env x v] [u2,u1] >>= fun _=>pure Flow.next) _ _ _
 refine zZ (assignInOrder_cons (wpAny_bindName (JV I3 hN hj (.inl hy) rw' (fun s2 I4=>?_) (.inr hy))))
 refine assignInOrder_cons (wpAny_bindName (JV I4 hN hi (.inl hx) rv (fun s3 I5=>assignInOrder_nil (zY ?_)) (.inr hx)))
 rw[List.set_comm _ _ (b1Q hij)] at I5
 exact⟨_,H1,I5,q1⟩
end
structure It where
 go:Nat->Hp->Prop
 yld:Nat->Hp->V->Hp->Prop
 stop:Nat->Hp->Prop
def JW (X:Cx) (pins:List (Addr×Obj)) (H:Hp) (b:Addr):Prop:=
 H b=none/\b≠X.env.locals/\b∉X.fs/\(b∈X.ex∨X.s₀.heap.objs.size<=b)/\(∀x c,X.env.cells.lookup x=some c->c≠b)/\∀p∈X.pn++pins,p.1≠b
theorem Inv.fpOk {X:Cx}{pins:List (Addr×Obj)}{σ:St}{H H':Hp}{s:Shared}{b:Addr}(I:Inv X pins σ H s) (hb:s.heap.objs.size<=b) (hn:H' b=none):JW X pins H' b:=by
 refine⟨hn,a9K (zP I.lt hb),I.nofs hb,.inr (zN I.sz hb),fun x c e z=>?_,fun p hp z=>?_⟩
 · obtain⟨v,q⟩:=I.cell x c e
   exact absurd (zP q.lt (by rw[z];exact hb)) (yF _)
 · exact absurd (zP (zM (I.pin p hp).1) (by rw[z];exact hb)) (yF _)
structure Turn (P:Program) (w:World) (K:Frg) (tg:Expr) (J:It) (fp:List Addr) (it:Addr) (tn:Nat->Heap->Prop):Prop where
 mem:it∈fp
 obj:∀i h,tn i h->∀b∈fp,∃o,h.get? b=some o/\∀v,o.data≠.cell v
 keep:∀i h h',tn i h->(∀b∈fp,∀o,h.get? b=some o->h'.get? b=some o)->tn i h'
 item:∀(X:Cx),X.prog=P->X.w=w->X.K=K->X.calm=true->∀(i:Nat) (pins:List (Addr×Obj)) (s:Shared) (σ:St) (H:Hp) (E:Value->Shared->Prop),Inv X pins σ H s->(∀b∈fp,JW X pins H b)->tn i s.heap->J.go i H ->
   wpAny (model P w) X.A (pyNext (.ref it)) (fun r s1=>∃u,r=some u /\
     wpAny (model P w) X.A (letOwnedTupleGo tg (.ref it) u) (fun _ s2=>∃x H',Inv X pins σ H' s2/\RelV x u/\J.yld i H x H'/\tn (i+1) s2.heap/\∀b∈fp,H' b=none) E s1) E s
 done:∀(X:Cx),X.prog=P->X.w=w->X.K=K->X.calm=true->∀(i:Nat) (pins:List (Addr×Obj)) (s:Shared) (σ:St) (H:Hp) (E:Value->Shared->Prop),Inv X pins σ H s->(∀b∈fp,JW X pins H b)->tn i s.heap->J.stop i H ->
   wpAny (model P w) X.A (pyNext (.ref it)) (fun r s1=>r=none/\Inv X pins σ H s1) E s
 self:∀(A:Around) (i:Nat) (s:Shared) (Q:Value->Shared->Prop) (E:Value->Shared->Prop),tn i s.heap->Q (.ref it) s->wpAny (model P w) A (pyIter (.ref it)) Q E s
abbrev TI:=St->Hp->(It->Hp->Prop)->Prop
def PIE (X:Cx) (pins:List (Addr×Obj)) (σ:St) (tg:Expr) (R:It->Hp->Prop) (itv:Value) (s2:Shared):Prop:=
 ∃(it:Addr) (fp:List Addr) (tn:Nat->Heap->Prop) (J:It) (H':Hp),itv = .ref it/\Inv X pins σ H' s2/\Turn X.prog X.w X.K tg J fp it tn/\tn 0 s2.heap/\(∀b∈fp,JW X pins H' b)/\R J H'
def PI (X:Cx) (tg iter:Expr) (wi:TI):Prop:=
 ∀(pins:List (Addr×Obj)) (s:Shared) (σ:St) (H:Hp) (R:It->Hp->Prop),Inv X pins σ H s->wi σ H R ->
   wpAny (model X.prog X.w) X.A (eval iter X.env) (fun v s1=>wpAny (model X.prog X.w) X.A (pyIter v) (PIE X pins σ tg R) X.xe s1) X.xe s
theorem X4 {M:Model}{A:Around}{E:Value->Shared->Prop}{s:Shared}{tg:Expr}{it:Addr}{u:Value}{o:Obj}{n:String}{vs:Array Value}{Q:Unit->Shared->Prop}(ho:s.heap.get? it=some o) (hc:o.cls = .type n) (hd:o.data = .fields vs)
   (hn:["enumerate", "zip", "dict_itemiterator", "dict_reverseitemiterator", "odict_iterator", "itertools.zip_longest", "itertools.pairwise"].contains n=false) (hQ:Q () s):wpAny M A (letOwnedTupleGo tg (.ref it) u) Q E s:=by
 unfold letOwnedTupleGo
 cases tg <;> first
   | exact zY hQ
   | (cases u <;> first
       | exact zY hQ
       | (refine zZ (wpAny_load ho ?_)
          rw[hc,hd]
          show wpAny M A (if (["enumerate", "zip", "dict_itemiterator", "dict_reverseitemiterator", "odict_iterator", "itertools.zip_longest", "itertools.pairwise"].contains n&&vs[0]?==some (rawInt _))=true then _ else _) Q E s
          rw[if_neg (by intro h;rw[hn,Bool.false_and] at h;cases h)]
          exact zY hQ))
def Itl (K:Frg) (a:Addr):It:=
 ⟨fun i H=>∃xs x,SqL K H a xs/\xs[i]?=some x,fun i H x H'=>H'=H/\∀xs,SqL K H a xs->xs[i]?=some x,fun i H=>∃xs,SqL K H a xs/\xs.length<=i⟩
def Itt (K:Frg) (a:Addr):It:=
 ⟨fun i H=>∃xs x,SqT K H a xs/\xs[i]?=some x,fun i H x H'=>H'=H/\∀xs,SqT K H a xs->xs[i]?=some x,fun i H=>∃xs,SqT K H a xs/\xs.length<=i⟩
def Itr (lo:Int) (n:Nat):It:=⟨fun i _=>i < n,fun i H x H'=>H'=H/\x = .int (lo+i),fun i _=>n<=i⟩
theorem YH {P:Program}{w:World}{K:Frg}{tg:Expr}(a it:Addr):Turn P w K tg (Itl K a) [it] it (fun i h=>h.IsListIter it a i) where
 mem:=by simp
 obj:=fun i h st b hb=>by
   have e:b=it:=by simpa using hb
   subst e
   obtain⟨o,e,c,d⟩:=st
   exact⟨o,e,fun v z=>by rw[d] at z;cases z⟩
 keep:=fun i h h' st k=>st.at fun o e=>k it (by simp) o e
 item:=by
   intro X hP hw hK hc i pins s σ H E I hf st hg
   subst hP hw hK
   obtain⟨xs,x,hq,hx⟩:=hg
   obtain⟨its,rv,p,hz⟩:=I.list hq
   obtain⟨u,hu,ru⟩:=rv.get hx
   obtain⟨f0,f1,f2,f3,f4,f5⟩:=hf it (by simp)
   refine wpAny_pyNext_list_item st p.isList (x:=u) (by simpa using hu) fun h' st' sb=>?_
   have I1:Inv X pins σ H { s with heap:=h' }:=I.turned (t':=s.toks) (fun b o hb e=>(sb.2 b hb).trans e) f0 f1 f3 f4 f5
   obtain⟨o,e,c,d⟩:=id st'
   exact⟨u,rfl,X4 (s:={ s with heap:=h' }) e c d (by decide) ⟨x,H,I1,ru,⟨rfl,fun ys hy=>by rw[I.list_inj hy hq];exact hx⟩,st',fun b hb=>(hf b hb).1⟩⟩
 done:=by
   intro X hP hw hK hc i pins s σ H E I hf st hg
   subst hP hw hK
   obtain⟨xs,hq,hx⟩:=hg
   obtain⟨its,rv,p,hz⟩:=I.list hq
   obtain⟨f0,f1,f2,f3,f4,f5⟩:=hf it (by simp)
   have hl:=rv.length
   exact wpAny_pyNext_list_end (I.ok.hd hc) st p.isList (by simp;omega) fun h' eb=>⟨rfl,I.turned (t':=s.toks) (fun b o hb e=>eb b o hb e) f0 f1 f3 f4 f5⟩
 self:=fun _ _ _ _ _ st h=>wpAny_pyIter_listiter st h
theorem VH {P:Program}{w:World}{K:Frg}{tg:Expr}(a it:Addr):Turn P w K tg (Itt K a) [it] it (fun i h=>h.IsTupleIter it a i) where
 mem:=by simp
 obj:=fun i h st b hb=>by
   have e:b=it:=by simpa using hb
   subst e
   obtain⟨o,e,c,d⟩:=st
   exact⟨o,e,fun v z=>by rw[d] at z;cases z⟩
 keep:=fun i h h' st k=>st.at fun o e=>k it (by simp) o e
 item:=by
   intro X hP hw hK hc i pins s σ H E I hf st hg
   subst hP hw hK
   obtain⟨xs,x,hq,hx⟩:=hg
   obtain⟨its,rv,p,hz⟩:=I.tuple hq
   obtain⟨u,hu,ru⟩:=rv.get hx
   obtain⟨f0,f1,f2,f3,f4,f5⟩:=hf it (by simp)
   refine wpAny_pyNext_tuple_item st (show s.heap.IsTuple a its.toArray from p) (x:=u) (by simpa using hu) fun h' st' sb=>?_
   have I1:Inv X pins σ H { s with heap:=h' }:=I.turned (t':=s.toks) (fun b o hb e=>(sb.2 b hb).trans e) f0 f1 f3 f4 f5
   obtain⟨o,e,c,d⟩:=id st'
   exact⟨u,rfl,X4 (s:={ s with heap:=h' }) e c d (by decide) ⟨x,H,I1,ru,⟨rfl,fun ys hy=>by rw[I.tuple_inj hy hq];exact hx⟩,st',fun b hb=>(hf b hb).1⟩⟩
 done:=by
   intro X hP hw hK hc i pins s σ H E I hf st hg
   subst hP hw hK
   obtain⟨xs,hq,hx⟩:=hg
   obtain⟨its,rv,p,hz⟩:=I.tuple hq
   obtain⟨f0,f1,f2,f3,f4,f5⟩:=hf it (by simp)
   have hl:=rv.length
   exact wpAny_pyNext_tuple_end (I.ok.hd hc) st (show s.heap.IsTuple a its.toArray from p) (by simp;omega) fun h' eb=>⟨rfl,I.turned (t':=s.toks) (fun b o hb e=>eb b o hb e) f0 f1 f3 f4 f5⟩
 self:=fun _ _ _ _ _ st h=>wpAny_pyIter_tupleiter st h
theorem VI {P:Program}{w:World}{K:Frg}{tg:Expr}(it:Addr) (lo:Int) (n:Nat):Turn P w K tg (Itr lo n) [it] it (fun i h=>IsRangeIter h it (lo+(i:Nat)*1) ((n:Int) - (i:Nat)) 1) where
 mem:=by simp
 obj:=fun i h st b hb=>by
   have e:b=it:=by simpa using hb
   subst e
   exact⟨_,st,fun v z=>by
     have z':Data.fields _=Data.cell v:=z
     cases z'⟩
 keep:=fun i h h' st k=>k it (by simp) _ st
 item:=by
   intro X hP hw hK hc i pins s σ H E I hf st hg
   subst hP hw hK
   obtain⟨f0,f1,f2,f3,f4,f5⟩:=hf it (by simp)
   have W:=Walks.range (prog:=X.prog) (w:=X.w) (I.ok.hd hc) it lo 1 n
   refine W.item i s _ _ hg st fun v h' tk hv st' kk=>?_
   obtain⟨t,rfl⟩:=hv
   have I1:Inv X pins σ H { s with heap:=h',toks:=tk }:=I.turned (fun b o hb e=>kk b o (by simpa using hb) e) f0 f1 f3 f4 f5
   refine⟨_,rfl,X4 (s:={ s with heap:=h',toks:=tk }) (n:= "range_iterator") st' rfl rfl (by decide) ⟨.int (lo+i),H,I1,⟨t,?_⟩,⟨rfl,rfl⟩,st',fun b hb=>(hf b hb).1⟩⟩
   rw[Int.mul_one]
 done:=by
   intro X hP hw hK hc i pins s σ H E I hf st hg
   subst hP hw hK
   obtain⟨f0,f1,f2,f3,f4,f5⟩:=hf it (by simp)
   exact wpAny_pyNext_range_end (I.ok.hd hc) st (by have:n<=i:=hg;omega) fun h' eb=>⟨rfl,I.turned (t':=s.toks) (fun b o hb e=>eb b o hb e) f0 f1 f3 f4 f5⟩
 self:=fun _ _ _ _ _ st h=>wpAny_pyIter_rangeiter st h
section
variable {X:Cx}{tg:Expr}
theorem aR {pins:List (Addr×Obj)}{σ:St}{H:Hp}{s:Shared}{R:It->Hp->Prop}{E:Value->Shared->Prop}{lo hi:Int}{t u v:Tok}{tk:Nat}(I:Inv X pins σ H s) (h1 : -(2 ^ 62)<=lo) (h2:lo < 2 ^ 62) (h3 : -(2 ^ 62)<=hi) (h4:hi < 2 ^ 62)
   (q:R (Itr lo (hi - lo).toNat) H):wpAny (model X.prog X.w) X.A (pyIter (.ref s.heap.objs.size)) (PIE X pins σ tg R) E { s with heap:=s.heap.push { cls:=.type "range", data:=.fields #[.int lo t,.int hi u,.int 1 v] },toks:=tk }:=by
 refine wpAny_pyIter_range (IsRange.new ..) (small_one h1 h2 h3 h4) ?_
 have I1:Inv X pins σ H { s with heap:=s.heap.push { cls:=.type "range", data:=.fields #[.int lo t,.int hi u,.int 1 v] },toks:=tk }:=I.kept fun b o e=>zW _ e
 refine⟨(s.heap.push { cls:=.type "range", data:=.fields #[.int lo t,.int hi u,.int 1 v] }).objs.size,[(s.heap.push { cls:=.type "range", data:=.fields #[.int lo t,.int hi u,.int 1 v] }).objs.size],_,_,H,rfl,
   I1.kept (t':=tk) fun b o e=>zW _ e,VI _ lo (hi - lo).toNat,?_,fun b hb=>?_,q⟩
 · have e1:lo+((0:Nat):Int)*1=lo:=by simp
   have e2:(((hi - lo).toNat:Nat):Int) - ((0:Nat):Int)=b0X lo hi 1:=by rw[rangeSize_one];split <;> omega
   show IsRangeIter _ _ (lo+((0:Nat):Int)*1) ((((hi - lo).toNat:Nat):Int) - ((0:Nat):Int)) 1
   rw[e1,e2]
   exact yZ _ rfl
 · have e:b=(s.heap.push { cls:=.type "range", data:=.fields #[.int lo t,.int hi u,.int 1 v] }).objs.size:=by simpa using hb
   subst e
   exact I1.fpOk (zR _) (I1.hok.fresh (zR _))
def jL (ta:TA):TI:=fun σ H R=>ta σ H fun vs H1=>∃j:Int,vs=[.int j]/\-(2 ^ 62)<=j/\j < 2 ^ 62/\R (Itr 0 j.toNat) H1
theorem YI {a:Expr}{ta:TA}{p pos:Pos}(hg:Gl X "range") (hm:X.mg "range"=none) (ha:PA X [a] ta) (hs:starEach [a] X.env=[(false,eval a X.env)]:=by rfl):PI X tg (.Call (.Name "range" p) [a] [] pos) (jL ta):=by
 intro pins s σ H R I h
 refine Call_ (G5 I hg hm boot_range (xH (thn (ha pos pins s σ H _ I h) fun us s1 ⟨vs,H1,I1,r1,q1⟩=>?_) hs rfl))
 obtain⟨j,e,q1,q2,q⟩:=q1
 subst e
 cases r1 with
 | cons r rr=>
   cases rr
   obtain⟨t,rfl⟩:=r
   exact call_range_1 (aR I1 (by omega) (by omega) q1 q2 (by simpa using q))
def oQ (wi:TI) (g:TG) (tb:TS):TS:=fun D σ H=>wi σ H fun J H1=>∃W:Nat->Nat->St->Hp->Prop,(∃m,W 0 m σ H1)/\∀i m σ H,W i m σ H ->
 (J.stop i H/\D.nx σ H)∨(J.go i H/\∃N:St->Hp->Prop,(∀σ' H',N σ' H'->∃m',m' < m/\W (i+1) m' σ' H')/\∀x H',J.yld i H x H'->g x σ H' fun σ2 H2=>tb { D with nx:=N,ct:=N,bk:=D.nx } σ2 H2)
def N6 (fp:List Addr) (h:Heap):List (Addr×Obj):=fp.filterMap fun b=>(h.get? b).map fun o=>(b,o)
theorem CU {fp:List Addr}{h:Heap}{b:Addr}{o:Obj}(hb:b∈fp) (e:h.get? b=some o):(b,o)∈N6 fp h:=List.mem_filterMap.mpr ⟨b,hb,by rw[e];rfl⟩
theorem YJ {fp:List Addr}{h:Heap}{p:Addr×Obj}(hp:p∈N6 fp h):p.1∈fp/\h.get? p.1=some p.2:=by
 obtain⟨b,hb,e⟩:=List.mem_filterMap.mp hp
 cases q:h.get? b with
 | none=>rw[q] at e;cases e
 | some o=>
   rw[q] at e
   have e':(b,o)=p:=Option.some.inj e
   subst e'
   exact⟨hb,q⟩
theorem Inv.pinned {pins:List (Addr×Obj)}{σ:St}{H:Hp}{s:Shared}{fp:List Addr}(I:Inv X pins σ H s) (hf:∀b∈fp,JW X pins H b) (ho:∀b∈fp,∃o,s.heap.get? b=some o/\∀v,o.data≠.cell v):Inv X (pins++N6 fp s.heap) σ H s:=
 I.pins_of fun p hp=>(yW.mp hp).elim (fun z=>I.pin p (zB _ z)) fun z=>by
   obtain⟨hb,e⟩:=YJ z
   obtain⟨f0,f1,f2,_⟩:=hf p.1 hb
   obtain⟨o,e',d⟩:=ho p.1 hb
   rw[e] at e';cases e'
   exact⟨e,f0,f1,f2,d⟩
theorem Inv.unpinned {pins pl:List (Addr×Obj)}{σ:St}{H:Hp}{s:Shared}(I:Inv X (pins++pl) σ H s):Inv X pins σ H s:=I.pins_of fun p hp=>I.pin p (zB _ (zA _ hp))
theorem l7 {iter:Expr}{body:List Stmt}{wi:TI}{g:TG}{tb:TS}{pos:Pos}(hp:PassesOwn (model X.prog X.w) X.A X.env X.xe) (hc:X.calm=true) (hi:PI X tg iter wi) (hg:PG X tg g) (hb:PSs X body tb)
   (hs:∀x,foldedSetIterable iter X.env x=pure x:=by intro _;rfl):PS X (.For tg iter body [] pos) (oQ wi g tb):=by
 intro pins s σ H D I h
 refine wpAny_For (thn (hi pins s σ H _ I h) fun v s1 h1=>thn h1 fun itv s2 h2=>?_) hs
 obtain⟨it,fp,tn,J,H2,e,I2,T,st2,f2,W,⟨m0,w0⟩,turn⟩:=h2
 subst e
 have stat:∀{H':Hp},(∀b∈fp,H' b=none)->∀b∈fp,JW X pins H' b:=fun hn b hb=>⟨hn b hb,(f2 b hb).2⟩
 refine codeAny_forLoop_any (fun n s'=>∃i σ' H',Inv X pins σ' H' s'/\tn i s'.heap/\(∀b∈fp,H' b=none)/\W i n σ' H') ?_ m0 ⟨0,σ,H2,I2,st2,fun b hb=>(f2 b hb).1,w0⟩
 rintro n s3 ⟨i,σ3,H3,I3,st3,fr3,w3⟩
 rcases turn i n σ3 H3 w3 with ⟨stop,qn⟩ | ⟨go,N,hN,step⟩
 · refine wpAny_passesOwn hp (thn (T.done X rfl rfl rfl hc i pins s3 σ3 H3 X.xe I3 (stat fr3) st3 stop) fun r s4 ⟨hr,I4⟩=>?_)
   subst hr
   exact wpAny_execs_nil ⟨σ3,H3,I4,qn⟩
 · refine wpAny_passesOwn hp (thn (T.item X rfl rfl rfl hc i pins s3 σ3 H3 X.xe I3 (stat fr3) st3 go) fun r s4 ⟨u,hr,h4⟩=>?_)
   subst hr
   refine wpAny_passesOwn hp (thn h4 fun _ s5 ⟨x,H5,I5,r5,y5,st5,fr5⟩=>?_)
   have I5':=I5.pinned (stat fr5) (T.obj _ _ st5)
   refine wpAny_passesOwn hp (thn (hg _ s5 σ3 H5 x u _ I5' r5 (step x H5 y5)) fun _ s6 ⟨σ6,H6,I6,q6⟩=>?_)
   refine wpAny_passesOwn hp (thn (hb _ s6 σ6 H6 _ I6 q6) fun f s7 q7=>?_)
   have again:∀{σ7:St}{H7:Hp},Inv X (pins++N6 fp s5.heap) σ7 H7 s7->N σ7 H7->∃m,m < n/\∃i σ' H',Inv X pins σ' H' s7/\tn i s7.heap/\(∀b∈fp,H' b=none)/\W i m σ' H':=fun {σ7 H7} I7 n7=>by
     obtain⟨m',hm,w7⟩:=hN σ7 H7 n7
     refine⟨m',hm,i+1,σ7,H7,I7.unpinned,T.keep _ _ _ st5 fun b hb o e=>(I7.pin (b,o) (zB _ (zB _ (CU hb e)))).1,fun b hb=>?_,w7⟩
     obtain⟨o,e,d⟩:=T.obj _ _ st5 b hb
     exact(I7.pin (b,o) (zB _ (zB _ (CU hb e)))).2.1
   cases f with
   | next=>obtain⟨σ7,H7,I7,n7⟩:=q7;exact again I7 n7
   | cont=>obtain⟨σ7,H7,I7,n7⟩:=q7;exact again I7 n7
   | brk=>obtain⟨σ7,H7,I7,q7⟩:=q7;exact⟨σ7,H7,I7.unpinned,q7⟩
   | ret v=>obtain⟨x7,σ7,H7,I7,r7,q7⟩:=q7;exact⟨x7,σ7,H7,I7.unpinned,r7,q7⟩
end
abbrev R2:=V->V->Hp->VK->Prop
def OpR (X:Cx) (f:Value->Value->Sem Value) (r:R2):Prop:=
 ∀(pins:List (Addr×Obj)) (s:Shared) (σ:St) (H:Hp) (x y:V) (v u:Value) (Q:VK),Inv X pins σ H s->RelV x v->RelV y u->r x y H Q ->
   wpAny (model X.prog X.w) X.A (f v u) (EP X pins σ Q) X.xe s
def UnR (X:Cx) (f:Value->Sem Value) (r:V->Hp->VK->Prop):Prop:=
 ∀(pins:List (Addr×Obj)) (s:Shared) (σ:St) (H:Hp) (x:V) (v:Value) (Q:VK),Inv X pins σ H s->RelV x v->r x H Q ->
   wpAny (model X.prog X.w) X.A (f v) (EP X pins σ Q) X.xe s
def B6 (X:Cx) (f:Value) (r:List V->Hp->VK->Prop):Prop:=
 ∀(pins:List (Addr×Obj)) (s:Shared) (σ:St) (H:Hp) (xs:List V) (us:List Value) (Q:VK),Inv X pins σ H s->Vals xs us->r xs H Q ->
   wpAny (model X.prog X.w) X.A (call f us) (EP X pins σ Q) X.xe s
def tOp (r:R2) (ta tb:TE):TE:=fun σ H Q=>ta σ H fun x H1=>tb σ H1 fun y H2=>r x y H2 Q
def tUn (r:V->Hp->VK->Prop) (ta:TE):TE:=fun σ H Q=>ta σ H fun x H1=>r x H1 Q
def rI (C:Int->Int->Prop) (g:Int->Int->V):R2:=fun x y H Q=>∃i j,x = .int i/\y = .int j/\C i j/\Q (g i j) H
def rI0 (g:Int->Int->V):R2:=fun x y H Q=>∃i j,x = .int i/\y = .int j/\Q (g i j) H
def rU (g:Int->V):V->Hp->VK->Prop:=fun x H Q=>∃i,x = .int i/\Q (g i) H
section
variable {X:Cx}{a b c:Expr}{ta tb tc:TE}{pos:Pos}
theorem l8 (ha:PE X a ta) (hb:PE X b tb) {pins:List (Addr×Obj)}{s:Shared}{σ:St}{H:Hp}{R:V->V->Hp->Prop}(I:Inv X pins σ H s)
   (h:ta σ H fun x H1=>tb σ H1 fun y H2=>R x y H2) {Q:Value->Shared->Prop}{f:Value->Value->Sem Value}
   (hf:∀v u s2 x y H2,Inv X pins σ H2 s2->RelV x v->RelV y u->R x y H2->wpAny (model X.prog X.w) X.A (f v u) Q X.xe s2) :
   wpAny (model X.prog X.w) X.A (eval a X.env) (fun v s₁=>wpAny (model X.prog X.w) X.A (eval b X.env) (fun u s₂=>wpAny (model X.prog X.w) X.A (f v u) Q X.xe s₂) X.xe s₁) X.xe s:=by
 refine thn (ha pins s σ H _ I h) fun v s1 ⟨x,H1,I1,r1,q1⟩=>?_
 refine thn (hb pins s1 σ H1 _ I1 q1) fun u s2 ⟨y,H2,I2,r2,q2⟩=>?_
 exact hf v u s2 x y H2 I2 r1 r2 q2
theorem IS {op:Operator}{r:R2}(ho:OpR X (binaryOp op) r) (ha:PE X a ta) (hb:PE X b tb):PE X (.BinOp a op b pos) (tOp r ta tb):=by
 intro pins s σ H Q I h
 exact wpAny_BinOp (l8 ha hb I h fun v u s2 x y H2 I2 rx ry q=>ho pins s2 σ H2 x y v u Q I2 rx ry q)
theorem oR {op:UnaryOp}{r:V->Hp->VK->Prop}(ho:UnR X (unaryOp op) r) (ha:PE X a ta):PE X (.UnaryOp op a pos) (tUn r ta):=by
 intro pins s σ H Q I h
 exact UnaryOp_ (thn (ha pins s σ H _ I h) fun v s1 ⟨x,H1,I1,r1,q1⟩=>ho pins s1 σ H1 x v Q I1 r1 q1)
theorem opI {f:Value->Value->Sem Value}{C:Int->Int->Prop}{g:Int->Int->Int}
   (rule:∀(i j:Int) (t u:Tok) (s:Shared) (Q:Value->Shared->Prop) (E:Value->Shared->Prop),C i j->Q (.int (g i j) s.toks) { s with toks:=s.toks+1 }->wpAny (model X.prog X.w) X.A (f (.int i t) (.int j u)) Q E s) :
   OpR X f (rI C fun i j=>.int (g i j)):=by
 intro pins s σ H x y v u Q I rx ry h
 obtain⟨i,j,rfl,rfl,hc,q⟩:=h
 obtain⟨t,rfl⟩:=rx
 obtain⟨t',rfl⟩:=ry
 exact rule i j t t' s _ _ hc ⟨.int (g i j),H,I.tok _,⟨_,rfl⟩,q⟩
theorem oS {f:Value->Value->Sem Value}{g:Int->Int->Int}
   (rule:∀(i j:Int) (t u:Tok) (s:Shared) (Q:Value->Shared->Prop) (E:Value->Shared->Prop),Q (.int (g i j) s.toks) { s with toks:=s.toks+1 }->wpAny (model X.prog X.w) X.A (f (.int i t) (.int j u)) Q E s) :
   OpR X f (rI0 fun i j=>.int (g i j)):=by
 intro pins s σ H x y v u Q I rx ry h
 obtain⟨i,j,rfl,rfl,q⟩:=h
 obtain⟨t,rfl⟩:=rx
 obtain⟨t',rfl⟩:=ry
 exact rule i j t t' s _ _ ⟨.int (g i j),H,I.tok _,⟨_,rfl⟩,q⟩
theorem l9 {f:Value->Value->Sem Value}{g:Int->Int->Bool}
   (rule:∀(i j:Int) (t u:Tok) (s:Shared) (Q:Value->Shared->Prop) (E:Value->Shared->Prop),Q (.bool (g i j)) s->wpAny (model X.prog X.w) X.A (f (.int i t) (.int j u)) Q E s) :
   OpR X f (rI0 fun i j=>.bl (g i j)):=by
 intro pins s σ H x y v u Q I rx ry h
 obtain⟨i,j,rfl,rfl,q⟩:=h
 obtain⟨t,rfl⟩:=rx
 obtain⟨t',rfl⟩:=ry
 exact rule i j t t' s _ _ ⟨.bl (g i j),H,I,rfl,q⟩
def oT (i j:Int):Prop:=0 < j/\j < 1073741824
def lA (i j:Int):Prop:=0<=j/\j<=1000000/\i.natAbs < 2 ^ 64
def CMul (i j:Int):Prop:=(-(2 ^ 64) < i/\i < 2 ^ 64)∨(-(2 ^ 64) < j/\j < 2 ^ 64)
theorem CMul.ok {i j:Int}(h:CMul i j):IntMulOk i j:=by
 rcases h with ⟨h1,h2⟩ | ⟨h1,h2⟩
 · exact .of_left (intBits_le_64 h1 h2)
 · exact .of_right (intBits_le_64 h1 h2)
theorem VJ (k:Nat):(0:Int)<=2 ^ k:=by
 rw[two_pow_cast]
 exact a8V _
theorem lB:OpR X (binaryOp .Add) (rI0 fun i j=>.int (i+j)):=oS fun _ _ _ _ _ _ _ q=>add_int q
theorem lC:OpR X (binaryOp .Sub) (rI0 fun i j=>.int (i - j)):=oS fun _ _ _ _ _ _ _ q=>sub_int q
theorem lD:OpR X (binaryOp .Mod) (rI (fun _ j=>0 < j) fun i j=>.int (i % j)):=opI fun i j _ _ _ _ _ hc q=>by
 have h1:(0:Int) < j:=hc
 exact mod_int' (by omega) (by rw[Int.fmod_eq_emod_of_nonneg i (by omega)];exact q)
theorem lE:OpR X (binaryOp .Pow) (rI lA fun i j=>.int (i ^ j.toNat)):=opI fun _ _ _ _ _ _ _ hc q=>pow_int_small hc.1 hc.2.1 hc.2.2 q
theorem lG:OpR X (binaryOp .LShift) (rI lA fun i j=>.int (i*2 ^ j.toNat)):=opI fun _ _ _ _ _ _ _ hc q=>lshift_int_small hc.1 hc.2.1 hc.2.2 q
theorem lH:OpR X (binaryOp .RShift) (rI (fun _ j=>0<=j) fun i j=>.int (i/2 ^ j.toNat)):=opI fun i j _ _ _ _ _ hc q=>
 rshift_int hc (by rw[b6Z i (VJ _)];exact q)
theorem unI {f:Value->Sem Value}{g:Int->Int}
   (rule:∀(i:Int) (t:Tok) (s:Shared) (Q:Value->Shared->Prop) (E:Value->Shared->Prop),Q (.int (g i) s.toks) { s with toks:=s.toks+1 }->wpAny (model X.prog X.w) X.A (f (.int i t)) Q E s) :
   UnR X f (rU fun i=>.int (g i)):=by
 intro pins s σ H x v Q I rx h
 obtain⟨i,rfl,q⟩:=h
 obtain⟨t,rfl⟩:=rx
 exact rule i t s _ _ ⟨.int (g i),H,I.tok _,⟨_,rfl⟩,q⟩
theorem lI:UnR X (unaryOp .USub) (rU fun i=>.int (-i)):=unI fun _ _ _ _ _ q=>neg_int q
theorem QW {pins:List (Addr×Obj)}{σ:St}{H:Hp}{s:Shared}{Q:VK}{k k':Bool}(I:Inv X pins σ H s) (q:Q (.bl k) H) (e:k=k'):EP X pins σ Q (.bool k') s:=by
 subst e
 exact⟨.bl k,H,I,rfl,q⟩
theorem oU:OpR X (compareOp .Lt) (rI0 fun i j=>.bl (decide (i < j))):=l9 fun _ _ _ _ _ _ _ q=>lt_int q
theorem jM:OpR X (compareOp .LtE) (rI0 fun i j=>.bl (decide (i<=j))):=l9 fun _ _ _ _ _ _ _ q=>le_int q
theorem jN:OpR X (compareOp .Gt) (rI0 fun i j=>.bl (decide (j < i))):=l9 fun _ _ _ _ _ _ _ q=>gt_int q
theorem YK:OpR X (compareOp .Lt) (fun x y H Q=>∃i j,x = .str i/\y = .str j/\Q (.bl (decide (i.cps.toList < j.cps.toList))) H):=by
 intro pins s σ H x y v u Q I rx ry h
 obtain⟨i,j,rfl,rfl,q⟩:=h
 obtain⟨t,rfl⟩:=rx
 obtain⟨t',rfl⟩:=ry
 exact lt_str (QW I q rfl)
theorem YL:OpR X (compareOp .In) (fun x y H Q=>∃i j,x = .str i/\y = .str j/\Q (.bl (!(b0K j i 0 j.length 1).isEmpty)) H):=by
 intro pins s σ H x y v u Q I rx ry h
 obtain⟨i,j,rfl,rfl,q⟩:=h
 obtain⟨t,rfl⟩:=rx
 obtain⟨t',rfl⟩:=ry
 exact in_str (QW I q rfl)
theorem fV:OpR X (compareOp .IsNot) (fun x y H Q=>y = .non/\Q (.bl (!decide (x = .non))) H):=by
 intro pins s σ H x y v u Q I rx ry h
 obtain⟨rfl,q⟩:=h
 cases ry
 refine isnot_none_gen (QW I q ?_)
 cases x <;> first
   | (cases rx;rfl)
   | (obtain⟨t,rfl⟩:=rx;rfl)
theorem QX:OpR X (compareOp .NotIn) (fun x y H Q=>∃i j,x = .str i/\y = .str j/\Q (.bl (!(!(b0K j i 0 j.length 1).isEmpty))) H):=by
 intro pins s σ H x y v u Q I rx ry h
 obtain⟨i,j,rfl,rfl,q⟩:=h
 obtain⟨t,rfl⟩:=rx
 obtain⟨t',rfl⟩:=ry
 exact notIn_str (QW I q rfl)
theorem OpR.or {f:Value->Value->Sem Value}{r r':R2}(h:OpR X f r) (h':OpR X f r'):OpR X f (fun x y H Q=>r x y H Q∨r' x y H Q):=by
 intro pins s σ H x y v u Q I rx ry q
 rcases q with q | q
 · exact h pins s σ H x y v u Q I rx ry q
 · exact h' pins s σ H x y v u Q I rx ry q
theorem F6 (b:Expr) {op:CmpOp}(h:op≠.In:=by decide) (h2:op≠.NotIn:=by decide):behindInMarks op b=false:=by
 have e1:(op==CmpOp.In)=false:=by cases op <;> first | rfl | exact absurd rfl h
 have e2:(op==CmpOp.NotIn)=false:=by cases op <;> first | rfl | exact absurd rfl h2
 cases b <;> simp[behindInMarks,e1,e2]
theorem D5 {op:CmpOp}{r:R2}(ho:OpR X (compareOp op) r) (ha:PE X a ta) (hb:PE X b tb) (hm:behindInMarks op b=false):PE X (.Compare a [op] [b] pos) (tOp r ta tb):=by
 intro pins s σ H Q I h
 exact wpAny_Compare1 (l8 ha hb I h fun v u s2 x y H2 I2 rx ry q=>ho pins s2 σ H2 x y v u Q I2 rx ry q) hm
def jO (t:TE):TT:=fun σ H Q=>t σ H fun x H'=>∃k,x = .bl k/\Q k H'
theorem BN {op:CmpOp}{r:R2}(ho:OpR X (compareOp op) r) (ha:PE X a ta) (hb:PE X b tb) (hm:behindInMarks op b=false):PT X (.Compare a [op] [b] pos) (jO (tOp r ta tb)):=by
 intro pins s σ H Q I h
 refine wpAny_isTrue_Compare1 (thn (ha pins s σ H _ I h) fun v s1 ⟨x,H1,I1,r1,q1⟩=>thn (hb pins s1 σ H1 _ I1 q1) fun u s2 ⟨y,H2,I2,r2,q2⟩=>
   thn (ho pins s2 σ H2 x y v u _ I2 r1 r2 q2) fun c s3 ⟨z,H3,I3,r3,k,e,q3⟩=>?_) hm
 subst e
 cases r3
 exact wpAny_truthy_bool ⟨H3,I3,q3⟩
def aS (r r':R2) (ta tb tc:TE):TE:=fun σ H Q=>ta σ H fun x H1=>tb σ H1 fun y H2=>r x y H2 fun z H3=>∃k,z = .bl k /\
 (if k=true then tc σ H3 fun w' H4=>r' y w' H4 Q else Q (.bl false) H3)
theorem aT {op op':CmpOp}{r r':R2}(ho:OpR X (compareOp op) r) (ho':OpR X (compareOp op') r') (ha:PE X a ta) (hb:PE X b tb) (hc:PE X c tc)
   (hm:lastMarks [op,op'] [b,c]=false:=by with_unfolding_all rfl):PE X (.Compare a [op,op'] [b,c] pos) (aS r r' ta tb tc):=by
 intro pins s σ H Q I h
 refine Compare_chain (thn (ha pins s σ H _ I h) fun v s1 ⟨x,H1,I1,r1,q1⟩=>chain_link (thn (hb pins s1 σ H1 _ I1 q1) fun u s2 ⟨y,H2,I2,r2,q2⟩=>
   thn (ho pins s2 σ H2 x y v u _ I2 r1 r2 q2) fun d s3 ⟨z,H3,I3,r3,k,e,q3⟩=>?_)) hm
 subst e
 cases r3
 refine wpAny_truthy_bool ?_
 cases k with
 | false=>exact ite_ff ⟨.bl false,H3,I3,rfl,q3⟩
 | true=>exact ite_tt (chain_last (thn (hc pins s3 σ H3 _ I3 q3) fun w' s4 ⟨z',H4,I4,r4,q4⟩=>ho' pins s4 σ H4 y z' u w' Q I4 r2 r4 q4))
theorem N7:(sizeLine:Nat) < 2 ^ 63:=by rw[sizeLine_eq];decide
theorem VL:OpR X (binaryOp .Add) (fun x y H Q=>∃i j,x = .str i/\y = .str j/\i.length+j.length<=sizeLine/\Q (.str (i++j)) H):=by
 intro pins s σ H x y v u Q I rx ry h
 obtain⟨i,j,rfl,rfl,hz,q⟩:=h
 obtain⟨t,rfl⟩:=rx
 obtain⟨t',rfl⟩:=ry
 exact add_str (fun t' tk=>⟨.str (i++j),H,I.tok _,⟨_,rfl⟩,q⟩) hz
theorem DZ {x:V}{us:List Value}(r:Vals [x] us):∃u,us=[u]/\RelV x u:=by
 cases r with
 | cons r1 r2=>cases r2;exact⟨_,rfl,r1⟩
theorem jP {x y:V}{us:List Value}(r:Vals [x,y] us):∃u w',us=[u,w']/\RelV x u/\RelV y w':=by
 cases r with
 | cons r1 r2=>
   cases r2 with
   | cons r3 r4=>cases r4;exact⟨_,_,rfl,r1,r3⟩
theorem YM:B6 X (.type "int") (fun xs H Q=>(∃i,xs=[.int i]/\Q (.int i) H)∨∃k,xs=[.bl k]/\Q (.int (if k then 1 else 0)) H):=by
 intro pins s σ H xs us Q I r h
 rcases h with ⟨i,rfl,q⟩ | ⟨k,rfl,q⟩
 · obtain⟨u,rfl,t,rfl⟩:=DZ r
   exact call_int_int ⟨.int i,H,I,⟨_,rfl⟩,q⟩
 · obtain⟨u,rfl,r1⟩:=DZ r
   cases r1
   exact call_int_bool ⟨.int (if k then 1 else 0),H,I.tok _,⟨_,rfl⟩,q⟩
def fW (K:Frg) (x:V) (H:Hp) (n:Nat):Prop:=
 match x with
 | .str y=>y.length<=sizeLine/\n=y.length
 | .byt y=>y.size<=sizeLine/\n=y.size
 | .ref p=>(∃xs,SqL K H p xs/\n=xs.length)∨∃xs,SqT K H p xs/\n=xs.length
 | _=>False
theorem aU:B6 X (.builtin "len") (fun xs H Q=>∃x n,xs=[x]/\fW X.K x H n/\Q (.int n) H):=by
 intro pins s σ H xs us Q I r h
 obtain⟨x,n,rfl,e,q⟩:=h
 obtain⟨u,rfl,rx⟩:=DZ r
 have hl:=N7
 have hs:sizeLine=16777216:=sizeLine_eq
 cases x with
 | str y=>
   obtain⟨t,rfl⟩:=rx
   obtain⟨hy,e'⟩:y.length<=sizeLine/\n=y.length:=e
   subst e'
   exact len_str (by omega) ⟨.int _,H,I.tok _,⟨_,rfl⟩,q⟩
 | byt y=>
   obtain⟨t,rfl⟩:=rx
   obtain⟨hy,e'⟩:y.size<=sizeLine/\n=y.size:=e
   subst e'
   exact PySem.W.len_bytes (by omega) ⟨.int _,H,I.tok _,⟨_,rfl⟩,q⟩
 | ref p=>
   cases rx
   have e':(∃xs,SqL X.K H p xs/\n=xs.length)∨∃xs,SqT X.K H p xs/\n=xs.length:=e
   rcases e' with ⟨xs,hx,e'⟩ | ⟨xs,hx,e'⟩
   · subst e'
     obtain⟨its,r',pl,hz⟩:=I.list hx
     have hlen:=r'.length
     exact Calls.call_len_list pl.isList (by simp only[zJ];omega) ⟨.int xs.length,H,I.tok _,⟨_,by simp only[zJ];rw[hlen]⟩,q⟩
   · subst e'
     obtain⟨its,r',pl,hz⟩:=I.tuple hx
     have hlen:=r'.length
     exact len_tuple pl (by simp only[zJ];omega) ⟨.int xs.length,H,I.tok _,⟨_,by simp only[zJ];rw[hlen]⟩,q⟩
 | _=>exact(show False from e).elim
theorem T8:B6 X (.builtin "divmod") (fun xs H Q=>∃i j,xs=[.int i,.int j]/\oT i j/\∀p,H p=none->Q (.ref p) (upd H p (.tup [.int (i/j),.int (i % j)]))):=by
 intro pins s σ H xs us Q I r h
 obtain⟨i,j,rfl,⟨h1,h2⟩,q⟩:=h
 obtain⟨u,w',rfl,⟨t,rfl⟩,⟨t',rfl⟩⟩:=jP r
 refine divmod_int (by omega) ?_ (.inl (PyProof.noPylong_small (by omega)))
 rw[b6Z i (by omega),Int.fmod_eq_emod_of_nonneg i (by omega)]
 have hn:H s.heap.objs.size=none:=I.hok.fresh (zR _)
 refine⟨.ref s.heap.objs.size,_,?_,rfl,q _ hn⟩
 refine I.laid (fun b o e=>zW _ e) (zR _) ⟨by simp only[yR,b4J];rw[sizeLine_eq];decide,[.int (i/j) s.toks,.int (i % j) (s.toks+1)],.cons ⟨_,rfl⟩ (.cons ⟨_,rfl⟩ .nil),?_⟩
 exact⟨_,yZ s.heap rfl,rfl,0,rfl⟩
end
structure ObjM (h:Heap) (x dx C:Addr) (mA:Str->Option Value):Prop where
 obj:h.get? x=some (PySem.W.instObj C dx)
 ns:h.Ns1 dx mA
 ne:dx≠x
theorem YN {h:Heap}{dx:Addr}{mA:Str->Option Value}(n:h.Ns1 dx mA):∃od,h.get? dx=some od/\∀name,PySem.W.lookIn name od=some (mA name):=by
 obtain⟨o,es,ep,ho,hd,hk,_,hm⟩:=n
 refine⟨o,ho,fun name=>?_⟩
 have e:=hm name
 unfold nsFind findBy at e
 rw[← Array.find?_toList] at e
 unfold PySem.W.lookIn
 rw[hd]
 dsimp only
 split
 · rename_i y q
   rw[q] at e
   exact congrArg some e
 · rename_i q
   rw[q] at e
   have a:es.toList.any (·.refKey)=false:=by
     rw[List.any_eq_false]
     intro y hy
     obtain⟨z,t,hkey⟩:=hk y (Array.mem_toList_iff.mp hy)
     simp[DictEntry.refKey,hkey]
   have a':¬es.toList.any (·.refKey)=true:=by rw[a];exact nft
   rw[if_neg a']
   exact congrArg some e
theorem ObjM.look {h:Heap}{x dx C:Addr}{mA:Str->Option Value}(I:ObjM h x dx C mA):∃od,PySem.W.InstAt h x (PySem.W.instObj C dx) C (some od)/\∀name,PySem.W.lookIn name od=some (mA name):=
 let ⟨od,ho,hl⟩:=YN I.ns
 ⟨od,⟨I.obj,rfl,rfl,ho⟩,hl⟩
theorem RelO.some_of {v:V}{o:Option Value}(r:RelO (some v) o):∃u,o=some u/\RelV v u:=by
 cases o with
 | none=>exact(show False from r).elim
 | some u=>exact⟨u,rfl,r⟩
section
variable {P:Program}{w:World}{H H':Hp}{h h':Heap}{a C dx:Addr}{fs fs':List (Str×V)}
theorem fX (hok:HOk P w H h) (e:H a=some (.ins C dx fs)):∃mA,ObjM h a dx C mA/\(∀f,RelO (fs.lookup f) (mA f))/\PySem.Within mA (fs.map (·.1))/\fs.length<=1000/\H dx=some (.own a):=by
 obtain⟨d,z,ne,ob,mA,n,r,q⟩:=(show ObjOk P w H h a (.ins C dx fs) from hok a _ e)
 exact⟨mA,⟨ob,n,ne⟩,r,q,z,d⟩
end
structure Cls (K:Frg) (C:Addr):Prop where
 pg:PySem.W.plainGet K C Str.empty=true
 hd:PySem.W.hasDictIn K C=true
 po:PySem.W.plainOver K C=true
 sa:PySem.W.findIn K (.ref C) "__setattr__"=some (some (.builtin "object.__setattr__"))
theorem Cls.get {K:Frg}{C:Addr}(c:Cls K C) (f:Str):PySem.W.plainGet K C f=true:=c.pg
section
variable {X:Cx}{pins:List (Addr×Obj)}{σ:St}{H:Hp}{s:Shared}{A:Around}{E:Value->Shared->Prop}{Q:Value->Shared->Prop}{c:Value}{b:Bool}
inductive TyOf (K:Frg) (H:Hp):V->Value->Prop where
 | non:TyOf K H .non (.type "NoneType")
 | bl (x:Bool):TyOf K H (.bl x) (.type "bool")
 | int (i:Int):TyOf K H (.int i) (.type "int")
 | str (x:Str):TyOf K H (.str x) (.type "str")
 | flt (x:UInt64):TyOf K H (.flt x) (.type "float")
 | lst {a:Addr}{xs:List V}(e:H a=some (.lst xs)):TyOf K H (.ref a) (.type "list")
 | frz {a:Addr}{o:Obj}{xs:List V}(e:H a=some (.frz o (.lst xs))):TyOf K H (.ref a) (.type "list")
 | tup {a:Addr}{xs:List V}(e:H a=some (.tup xs)):TyOf K H (.ref a) (.type "tuple")
 | dK {a:Addr}{kvs:List (Key×V)}(e:H a=some (.dK kvs)):TyOf K H (.ref a) (.type "dict")
 | dT {a:Addr}{kvs:List (List Key×V)}(e:H a=some (.dT kvs)):TyOf K H (.ref a) (.type "dict")
 | ins {a C dx:Addr}{fs:List (Str×V)}(e:H a=some (.ins C dx fs)) (cl:Cls K C) (ha:PySem.W.findIn K (.ref C) "__class__"=some (some (.builtin "object.__class__")))
     (hn:PySem.W.specialIn K (.builtin "object.__class__") "__get__"=some (some (.builtin "getset_descriptor.__get__"))) (htk:PySem.W.takesIn K (.builtin "object.__class__")=some true)
     (hm:PySem.W.mroIn K C (.type "object")=some true):TyOf K H (.ref a) (.ref C)
theorem FF {x:V}{u t:Value}(I:Inv X pins σ H s) (rx:RelV x u) (ty:TyOf X.K H x t) (e:PySem.W.kitOne X.K t c=some b) (h:∀tk,Q (.bool b) { s with toks:=tk }) :
   wpAny (model X.prog X.w) A (call (.builtin "isinstance") [u,c]) Q E s:=by
 cases ty with
 | non=>cases (show u=a4J from rx);exact a2J PySem.W.kitx_none I.kIn a8X e (fun z=>nomatch z) h
 | bl y=>cases (show u=Value.bool y from rx);exact a2J PySem.W.kitx_bool I.kIn a8X e (fun z=>nomatch z) h
 | int i=>obtain⟨t,q⟩:=(show ∃t,u=b7Q i t from rx);cases q;exact a2J PySem.W.kitx_int I.kIn a8X e (fun z=>nomatch z) h
 | str y=>obtain⟨t,q⟩:=(show ∃t,u=Value.str y t from rx);cases q;exact a2J PySem.W.kitx_str I.kIn a8X e (fun z=>nomatch z) h
 | flt y=>obtain⟨t,q⟩:=(show ∃t,u=Value.float y t from rx);cases q;exact a2J PySem.W.kitx_float I.kIn a8X e (fun z=>nomatch z) h
 | @lst a xs ea=>
   cases (show u=a0X a from rx)
   obtain⟨_,_,n,_,h1⟩:=(show ObjOk X.prog X.w H s.heap a (.lst xs) from I.hok a _ ea)
   exact a2J PySem.W.kitx_list I.kIn ⟨_,h1,rfl⟩ e (fun z=>nomatch z) h
 | @frz a ob xs ea=>
   cases (show u=a0X a from rx)
   obtain⟨_,_,_,n,_,h1⟩:=(show ObjOk X.prog X.w H s.heap a (.frz ob (.lst xs)) from I.hok a _ ea)
   exact a2J PySem.W.kitx_list I.kIn ⟨_,h1,rfl⟩ e (fun z=>nomatch z) h
 | @tup a xs ea=>
   cases (show u=a0X a from rx)
   obtain⟨_,_,_,p⟩:=(show ObjOk X.prog X.w H s.heap a (.tup xs) from I.hok a _ ea)
   obtain⟨o,h1,h2,_⟩:=p
   exact a2J PySem.W.kitx_tuple I.kIn ⟨o,h1,h2⟩ e (fun z=>nomatch z) h
 | @dK a kvs ea=>
   cases (show u=a0X a from rx)
   obtain⟨_,_,vs,_,p⟩:=(show ObjOk X.prog X.w H s.heap a (.dK kvs) from I.hok a _ ea)
   obtain⟨o,es,ep,h1,h2,_⟩:=p
   exact a2J PySem.W.kitx_dict I.kIn ⟨o,h1,h2.1⟩ e (fun z=>nomatch z) h
 | @dT a kvs ea=>
   cases (show u=a0X a from rx)
   obtain⟨_,_,xs,_,o,es,ep,h1,h2,_⟩:=(show ObjOk X.prog X.w H s.heap a (.dT kvs) from I.hok a _ ea)
   exact a2J PySem.W.kitx_dict I.kIn ⟨o,h1,h2.1⟩ e (fun z=>nomatch z) h
 | @ins a C dx fs ea cl ha hn htk hm=>
   cases (show u=a0X a from rx)
   obtain⟨mA,O,_⟩:=fX I.hok ea
   obtain⟨od,J,_⟩:=O.look
   exact a2J (PySem.W.kitx_own (cl.get _) cl.hd ha hn htk hm) I.kIn J e (fun z=>nomatch z) h
end
structure Room (k:Nat) (A:Around):Prop where
 hd:A.handled=none
 dp:A.depth+3*k+5 < recursionLimit
 un:A.units+16*k+200 < cLine
theorem Room.mono {j k:Nat}{A:Around}(r:Room k A) (h:j<=k):Room j A:=⟨r.hd,by have:=r.dp;omega,by have:=r.un;omega⟩
theorem Room.deeper {k:Nat}{A:Around}(r:Room (k+1) A) (env:Env):Room k (A.deeper env):=
 ⟨r.hd,by have:=r.dp;show A.depth+1+3*k+5 < _;omega,by have:=r.un;show A.units+3+16*k+200 < _;omega⟩
theorem Room.depth {k:Nat}{A:Around}(r:Room k A):A.depth < recursionLimit:=by have:=r.dp;omega
theorem Room.units {k:Nat}{A:Around}(r:Room k A):A.units+64 < cLine:=by have:=r.un;omega
def oV:TA:=fun _ H Q=>Q [] H
def jQ (ta:TE) (tr:TA):TA:=fun σ H Q=>ta σ H fun x H1=>tr σ H1 fun xs H2=>Q (x::xs) H2
section
variable {X:Cx}{e:Expr}{es:List Expr}{te:TE}{t:TA}{pos:Pos}
theorem lJ:PA X [] oV:=fun _ _ _ _ H Q I h=>Calls.spliced_nil ⟨[],H,I,.nil,h⟩
theorem fY (ha:PE X e te) (hr:PA X es t) (hs:starEach (e::es) X.env=(false,eval e X.env)::starEach es X.env:=by rfl):PA X (e::es) (jQ te t):=by
 intro pos pins s σ H Q I h
 rw[hs]
 show wpAny _ _ (spliced ((false,eval e X.env)::backTo pos (starEach es X.env))) _ _ s
 refine xP (thn (ha pins s σ H _ I h) fun u s1 ⟨x,H1,I1,r1,q1⟩=>?_)
 exact thn (hr pos pins s1 σ H1 _ I1 q1) fun us s2 ⟨xs,H2,I2,r2,q2⟩=>⟨x::xs,H2,I2,.cons r1 r2,q2⟩
def oW (t:TA):TE:=fun σ H Q=>t σ H fun xs H1=>xs.length<=sizeLine/\∀p,H1 p=none->Q (.ref p) (upd H1 p (.tup xs))
def lK (t:TA):TE:=fun σ H Q=>t σ H fun xs H1=>xs.length<=sizeLine/\∀p,H1 p=none->Q (.ref p) (upd H1 p (.lst xs))
theorem lL {x1} (h:PA X es t):PE X (.Tuple es x1 pos) (oW t):=by
 intro pins s σ H Q I hq
 refine wpAny_Tuple_spliced (thn (h pos pins s σ H _ I hq) fun us s1 ⟨xs,H1,I1,r,z,q⟩=>⟨by rw[← r.length];exact z,?_⟩)
 have hf:H1 s1.heap.objs.size=none:=I1.hok.fresh (zR _)
 refine⟨.ref s1.heap.objs.size,upd H1 s1.heap.objs.size (.tup xs),I1.laid (t':=s1.toks) (fun b u e=>zW _ e) (zR _) ?_,rfl,q _ hf⟩
 exact⟨z,us,r,⟨_,yZ _ rfl,rfl,_,rfl⟩⟩
theorem lM (h:PA X es t):PE X (.List es pos) (lK t):=by
 intro pins s σ H Q I hq
 refine wpAny_List_spliced (thn (h pos pins s σ H _ I hq) fun us s1 ⟨xs,H1,I1,r,z,q⟩=>⟨by rw[← r.length];exact z,?_⟩)
 have hf:H1 s1.heap.objs.size=none:=I1.hok.fresh (zR _)
 refine⟨.ref s1.heap.objs.size,upd H1 s1.heap.objs.size (.lst xs),I1.laid (t':=s1.toks) (fun b u e=>zW _ e) (zR _) ?_,rfl,q _ hf⟩
 exact⟨z,us,0,r,yZ _ rfl⟩
end
abbrev Sp:=List V->Hp->VK->XK->Prop
abbrev CXT:=List Env->Hp->Shared->XK->Value->Shared->Prop
structure Env0 (P:Program) (w:World) (K:Frg) (mg:Str->Option Value) (base:Heap) (A:Around) (outer:List Env) (s:Shared) (H:Hp):Prop where
 frames:A.frames=some outer
 mod:Mod K mg base
 bs:∀b o,base.get? b=some o->s.heap.get? b=some o/\H b=none
 bsz:base.objs.size<=s.heap.objs.size
 funs:s.heap.FunFrames base outer
 frf:∀b∈frs outer,H b=none
 hok:HOk P w H s.heap
 bare:AllBare s.gens
def CE (outer:List Env) (P:Program) (w:World) (H:Hp) (s:Shared) (Q:VK) (u:Value) (s':Shared):Prop:=
 ∃v H',s'.os=s.os/\AllBare s'.gens/\Un (frs outer) [] H H' s.heap s'.heap/\HOk P w H' s'.heap/\RelV v u/\Q v H'
def CR (CX:CXT) (outer:List Env) (P:Program) (w:World) (H:Hp) (s:Shared) (Q:VK) (E:XK) (r:Result) (s':Shared):Prop:=
 match r with
 | .ok (.ret u)=>CE outer P w H s Q u s'
 | .ok _=>False
 | .error e=>CX outer H s E e s'
structure FnOk (P:Program) (w:World) (K:Frg) (mg:Str->Option Value) (base:Heap) (CX:CXT) (k:Nat) (f:Addr) (fd:FuncData) (ps:List Str) (sp:Sp):Prop where
 len:∀vs H Q E,sp vs H Q E->vs.length=ps.length
 run:∀(A:Around) (outer:List Env) (s:Shared) (H:Hp) (args:Args) (us:List Value) (vs:List V) (Q:VK) (E:XK),Room k A->Env0 P w K mg base A outer s H->BindsTo s fd args (ps.zip us)->Vals vs us->sp vs H Q E ->
   codeAny (model P w) A (.call (.ref f) args) (CR CX outer P w H s Q E) s
section
variable {X:Cx}{pins:List (Addr×Obj)}{σ:St}{H:Hp}{s s':Shared}
theorem Inv.env0 (I:Inv X pins σ H s):Env0 X.prog X.w X.K X.mg X.base X.A X.stack s H:=
 ⟨I.ok.frames,I.ok.mod,I.bs,zN I.ok.bsz I.sz,I.stack,I.stkFree,I.hok,I.bare⟩
theorem Inv.after {Q:VK}{u:Value}(I:Inv X pins σ H s) (h:CE X.stack X.prog X.w H s Q u s'):EP X pins σ Q u s':=by
 obtain⟨v,H',os,bare,un,hok,r,q⟩:=h
 obtain⟨hh,g,d,t,os'⟩:=s'
 obtain rfl:os'=s.os:=os
 exact⟨v,H',I.call (h':=hh) (g':=g) (d':=d) (t':=t) (ch:=[]) un hok bare (fun b z=>absurd z (by simp)),r,q⟩
end
def X5 (sp:Sp) (dvs:List V) (E:XK) (t:TA):TE:=fun σ H Q=>t σ H fun vs H1=>sp (vs++dvs) H1 Q E
def Binds (K:Frg) (fd:FuncData) (ps:List Str) (ds:List Value):Prop:=
 ∀(s:Shared) (us:List Value),K.In s.heap->(us++ds).length=ps.length->BindsTo s fd ⟨us,[]⟩ (ps.zip (us++ds))
theorem Binds.all {K:Frg}{fd:FuncData}{ps:List Str}(h:∀us:List Value,us.length=ps.length->bindArgs fd ⟨us,[]⟩=pure (ps.zip us)):Binds K fd ps []:=fun s us _ hl=>by
 rw[b2Q] at hl ⊢
 exact .of_eq (h us hl)
def VM (CX:CXT) (X:Cx) (E:XK):Prop:=∀(pins:List (Addr×Obj)) (σ:St) (H:Hp) (s:Shared) (e:Value) (s':Shared),Inv X pins σ H s->CX X.stack H s E e s'->X.xe e s'
section
variable {X:Cx}{CX:CXT}{k:Nat}{f C:Addr}{fd:FuncData}{ps:List Str}{sp:Sp}{dvs:List V}{ds:List Value}{E:XK}{x m:Str}{p pos apos:Pos}{e o:Expr}{es:List Expr}{ta:TE}{t:TA}
theorem lN {pins:List (Addr×Obj)}{σ:St}{H:Hp}{s:Shared}{Q:VK}{us:List Value}{vs:List V}(F:FnOk X.prog X.w X.K X.mg X.base CX k f fd ps sp) (hr:Room k X.A) (hb:Binds X.K fd ps ds) (hd:Vals dvs ds) (hx:VM CX X E)
   (I:Inv X pins σ H s) (r:Vals vs us) (h:sp (vs++dvs) H Q E):wpAny (model X.prog X.w) X.A (call (.ref f) us) (EP X pins σ Q) X.xe s:=by
 have r2:Vals (vs++dvs) (us++ds):=r.append hd
 have hl:(us++ds).length=ps.length:=by rw[← r2.length];exact F.len _ _ _ _ h
 refine wpAny_call (codeAny_mono (F.run X.A X.stack s H ⟨us,[]⟩ (us++ds) (vs++dvs) Q E hr I.env0 (hb s us I.kIn hl) r2 h) fun r s' hq=>?_)
 cases r with
 | error e=>exact hx pins σ H s e s' I hq
 | ok fl=>
   cases fl with
   | ret u=>exact I.after hq
   | next=>exact b1K hq
   | brk=>exact b1K hq
   | cont=>exact b1K hq
theorem fZ (F:FnOk X.prog X.w X.K X.mg X.base CX k f fd ps sp) (hr:Room k X.A) (hg:Gl X x) (hm:X.mg x=some (.ref f)) (hk:b0Q X.K (.ref f)=true) (hb:Binds X.K fd ps ds) (hd:Vals dvs ds) (hx:VM CX X E)
   (ha:PA X (e::es) t) (hdb:(x==("__debug__":Str))=false:=by decide) (he:starEach (e::es) X.env=(false,eval e X.env)::starEach es X.env:=by rfl) (hpl:(backTo pos (starEach es X.env)).any (·.1)=false:=by rfl) :
   PE X (.Call (.Name x p) (e::es) [] pos) (X5 sp dvs E t):=by
 intro pins s σ H Q I h
 refine wpAny_Call_Name_kw (QU I hg hm ?_ hdb)
 refine PySem.W.callWith_K (h₀:=X.base) I.ok.mod.kin hk (thn (ha pos pins s σ H _ I h) fun us s1 ⟨vs,H1,I1,r,q⟩=>⟨I1.kIn,?_⟩) he hpl
 exact lN F hr hb hd hx I1 r q
end
structure FnScope (N P:List Str) (sc:Scope):Prop where
 kind:sc.kind = .function
 co:sc.isCoroutine=false
 gen:sc.isGenerator=false
 nd:N.Nodup
 pre:N.take P.length=P
 par:∀x∈P,sc.names.lookup x=some .local∨sc.names.lookup x=some .cell
 nofree:∀y∈sc.names,y.2≠.free
theorem PR {kindOf:Str->Option NameKind}{x:Str}:∀{binds:List (Str×Value)}{m:Str->Option Value},(∀v,(x,v)∉binds)->bindL kindOf binds m x=m x
 | [],_,_=>rfl
 | (n,v)::r,m,h=>by
   unfold bindL
   rw[PR fun w hw=>h w (yV _ hw)]
   split
   · have:x≠n:=by rintro rfl;exact h v a2V
     simp[this]
   · rfl
theorem PU {kindOf:Str->Option NameKind}{x:Str}:∀{binds:List (Str×Value)}{m:Str->Option Value},(∀v,(x,v)∉binds)->bindC kindOf binds m x=m x
 | [],_,_=>rfl
 | (n,v)::r,m,h=>by
   unfold bindC
   rw[PU fun w hw=>h w (yV _ hw)]
   split
   · rfl
   · have:x≠n:=by rintro rfl;exact h v a2V
     simp[this]
theorem PV {kindOf:Str->Option NameKind}{x:Str}{v:Value}:∀{P:List Str}{vs:List Value}{i:Nat}{m:Str->Option Value},P.Nodup->P[i]?=some x->vs[i]?=some v->kindOf x=some .local ->
   bindL kindOf (P.zip vs) m x=some v
 | [],_,_,_,_,h,_,_=>by simp at h
 | _::_,[],_,_,_,_,h,_=>by simp at h
 | p::P,w::vs,0,m,nd,h1,h2,hk=>by
   simp at h1 h2;subst h1;subst h2
   show bindL kindOf ((p,w)::P.zip vs) m p=_
   unfold bindL
   rw[PR fun v hv=>(xV.mp nd).1 (List.of_mem_zip hv).1,if_pos hk]
   simp
 | p::P,w::vs,i+1,m,nd,h1,h2,hk=>by
   show bindL kindOf ((p,w)::P.zip vs) m x=_
   unfold bindL
   exact PV (i:=i) (xV.mp nd).2 (by simpa using h1) (by simpa using h2) hk
theorem PX {kindOf:Str->Option NameKind}{x:Str}{v:Value}:∀{P:List Str}{vs:List Value}{i:Nat}{m:Str->Option Value},P.Nodup->P[i]?=some x->vs[i]?=some v->kindOf x≠some .local ->
   bindC kindOf (P.zip vs) m x=some v
 | [],_,_,_,_,h,_,_=>by simp at h
 | _::_,[],_,_,_,_,h,_=>by simp at h
 | p::P,w::vs,0,m,nd,h1,h2,hk=>by
   simp at h1 h2;subst h1;subst h2
   show bindC kindOf ((p,w)::P.zip vs) m p=_
   unfold bindC
   rw[PU fun v hv=>(xV.mp nd).1 (List.of_mem_zip hv).1,if_neg hk]
   simp
 | p::P,w::vs,i+1,m,nd,h1,h2,hk=>by
   show bindC kindOf ((p,w)::P.zip vs) m x=_
   unfold bindC
   exact PX (i:=i) (xV.mp nd).2 (by simpa using h1) (by simpa using h2) hk
def start (N:List Str) (vs:List V):St:=vs.map some++a3Z (N.length - vs.length) none
def VN (CX:CXT) (P:Program) (w:World) (K:Frg) (mg:Str->Option Value) (base:Heap) (N:List Str) (qual:Str) (scope:Scope) (f:Addr) (cd:Value) (A:Around) (outer:List Env) (s:Shared) (H:Hp) (E:XK):Cx where
 prog:=P
 w:=w
 K:=K
 mg:=mg
 base:=base
 A:=A.deeper (envOfC qual scope s.heap.objs.size f cd)
 N:=N
 s₀:=s
 H₀:=H
 env:=envOfC qual scope s.heap.objs.size f cd
 outer:=outer
 stack:=envOfC qual scope s.heap.objs.size f cd::outer
 ex:=[]
 calm:=true
 fn:=fun _=>true
 pn:=[]
 xe:=fun e s'=>wpAny (model P w) (A.deeper (envOfC qual scope s.heap.objs.size f cd)) (leaving (envOfC qual scope s.heap.objs.size f cd) e) (fun _ s''=>CX outer H s E e s'') (fun e' s''=>CX outer H s E e' s'') s'
theorem T9 {sc:Scope}{n:Nat}{x:Str}(h:sc.names.lookup x=some .cell):∃c,(cellsFrom n sc.names []).lookup x=some c:=by
 have q:=PySem.W.cellsFrom_some sc.names n [] (.inl h)
 exact xY.mp q
theorem YO {CX:CXT}{P:Program}{w:World}{K:Frg}{mg:Str->Option Value}{base:Heap}{N ps:List Str}{qual:Str}{scope:Scope}{f:Addr}{cd:Value}{A:Around}{outer:List Env}{s s1:Shared}{H:Hp}{E:XK}{us:List Value}{vs:List V}
   (S:FnScope N ps scope) (hd:A.handled=none) (e0:Env0 P w K mg base A outer s H) (hl:vs.length=ps.length) (r:Vals vs us)
   (x:InCallC s s.heap.objs.size (bindL (envOfC qual scope s.heap.objs.size f cd).kindOf (ps.zip us) fun _=>none) (cellsFrom (s.heap.objs.size+1) scope.names []) (bindC (envOfC qual scope s.heap.objs.size f cd).kindOf (ps.zip us) fun _=>none) s1) :
   Inv (VN CX P w K mg base N qual scope f cd A outer s H E) [] (start N vs) H s1:=by
 have hpl:ps.length<=N.length:=by have:=congrArg b2W S.pre;rw[a2X] at this;omega
 obtain⟨h1,tk,rfl,hk⟩:=x.done
 have noA:∀b:Addr,b∉(VN CX P w K mg base N qual scope f cd A outer s H E).ex:=fun b z=>absurd (show b∈([]:List Addr) from z) (by simp)
 refine⟨⟨e0.mod,S.kind,rfl,rfl,zR _,fun y z c h1 h2=>?_,fun y hy=>?_,fun y c _ h=>?_,fun _=>hd,Around.frames_deeper e0.frames,.inr ⟨rfl,rfl⟩,fun b z=>absurd z (noA b),e0.bs,e0.bsz,fun b _ _=>noA b,fun b z=>absurd z (noA b),e0.funs,e0.frf⟩,
   rfl,e0.bare,Un.kept hk,⟨_,x.toInCall.ns,fun i y v h1 h2 h3=>?_⟩,fun y c h=>⟨_,x.cell y c h⟩,e0.hok.fresh (zR _),fun y c h=>?_,fun p hp=>absurd (show p∈([]:List (Addr×Obj)) from hp) (by simp),e0.hok.kept hk,?_⟩
 · exact name_of_addr x.apart (a4V h1) (a4V h2)
 · have hy:scope.names.lookup y=some .cell∨scope.names.lookup y=some .free:=hy
   rcases hy with hy | hy
   · exact T9 hy
   · exact absurd rfl (S.nofree _ (a4V hy))
 · exact xR (x.above y c (a4V h))
 · have hi:i < vs.length:=by
     unfold start at h2
     by_cases hi:i < vs.length
     · exact hi
     · rw[yP (by simpa using hi)] at h2
       rw[List.getElem?_replicate] at h2
       split at h2 <;> cases h2
   have ha:vs[i]?=some v:=by
     unfold start at h2
     rw[yQ (by simpa using hi),zF] at h2
     cases e:vs[i]? with
     | none=>rw[e] at h2;cases h2
     | some a=>rw[e] at h2;cases h2;rfl
   obtain⟨u,hu,rv⟩:=r.get ha
   have hp:ps[i]?=some y:=by
     rw[← S.pre,List.getElem?_take_of_lt (by omega)];exact h1
   have ndP:ps.Nodup:=by rw[← S.pre];exact S.nd.sublist (List.take_sublist _ _)
   refine⟨u,rv,?_⟩
   rcases S.par y (yN hp) with k | k
   · exact .inl ⟨k,PV ndP hp hu k⟩
   · obtain⟨c,e⟩:=T9 (n:=s.heap.objs.size+1) k
     refine .inr ⟨.inl k,c,e,?_⟩
     have q:=x.cell y c e
     rw[PX ndP hp hu (by show scope.names.lookup y≠_;rw[k];decide)] at q
     exact q
 · exact e0.hok.fresh (xR (x.above y c (a4V h)))
 · unfold start
   show _=N.length
   rw[yY,zX,a9Z]
   omega
theorem oX {CX:CXT}{P:Program}{w:World}{K:Frg}{mg:Str->Option Value}{base:Heap}{k:Nat}{f:Addr}{name qual:Str}{params:Arguments}{body:List Stmt}{scope:Scope}{dV kV doc pm cdv ct oc:Value}{an od:Option Addr}
   {osl:Array (Option Value)}{N ps:List Str}{sp:Sp}(lk:K.lookup f=some ⟨oc,od,.func (a6V name qual params body scope dV kV doc pm an cdv ct),osl⟩) (hcd:b4W K cdv qual=true) (S:FnScope N ps scope)
   (len:∀vs H Q E,sp vs H Q E->vs.length=ps.length)
   (hbody:∀(A:Around) (outer:List Env) (s:Shared) (H:Hp) (vs:List V) (Q:VK) (E:XK),Room k (A.deeper (envOfC qual scope s.heap.objs.size f cdv))->sp vs H Q E ->
     ∃t,PSs (VN CX P w K mg base N qual scope f cdv A outer s H E) body t/\t { nx:=fun _ H'=>Q .non H',rt:=Q } (start N vs) H) :
   FnOk P w K mg base CX (k+1) f (a6V name qual params body scope dV kV doc pm an cdv ct) ps sp:=by
 refine⟨len,fun A outer s H args us vs Q E hr e0 hb r hsp=>?_⟩
 have hl:=len _ _ _ _ hsp
 have KX:K.In s.heap:=e0.mod.kin.keeps fun b o e=>(e0.bs b o e).1
 have lim:s.heap.NoLimit:=e0.mod.nolimit.keeps fun b o e=>(e0.bs b o e).1
 have hkind:∀y∈ps.zip us,scope.names.lookup y.1=some .local∨(scope.names.lookup y.1=some .cell/\((cellsFrom (s.heap.objs.size+1) scope.names []).lookup y.1).isSome=true):=fun⟨n,v⟩ hy=>by
   rcases S.par n (List.of_mem_zip hy).1 with q | q
   · exact .inl q
   · exact .inr ⟨q,PySem.W.cellsFrom_some _ _ _ (.inl q)⟩
 refine codeAny_call_function hr.depth (KX _ _ lk) rfl S.co S.gen rfl (PySem.W.codeRec_of KX hcd) (hb _ _ _ _ ?_)
 refine wpAny_newFunctionEnv_cells S.kind hkind fun env he s1 x=>?_
 subst he
 refine⟨lim.keeps x.toInCall.keep,codeAny_func ?_⟩
 obtain⟨t,ht,hq⟩:=hbody A outer s H vs Q E (hr.deeper _) hsp
 have I:Inv (VN CX P w K mg base N qual scope f cdv A outer s H E) [] (start N vs) H s1:=YO S hr.hd e0 hl r x
 refine wpAny_mono (ht [] s1 (start N vs) H _ I hq) (fun fl s' hs=>?_) fun e s' hs=>hs
 have fin:∀{σ':St}{H':Hp}{v:V}{u:Value},Inv (VN CX P w K mg base N qual scope f cdv A outer s H E) [] σ' H' s'->RelV v u->Q v H'->CE outer P w H s Q u s':=
   fun {σ' H' v u} J rv q=>⟨v,H',J.os,J.bare,J.base,J.hok,rv,q⟩
 cases fl with
 | ret u=>
   obtain⟨v,σ',H',J,rv,q⟩:=hs
   exact fin J rv q
 | next=>
   obtain⟨σ',H',J,q⟩:=hs
   exact fin (v:=V.non) (u:=a4J) J rfl q
 | brk=>
   obtain⟨_,_,_,q⟩:=hs
   exact b1K q
 | cont=>
   obtain⟨_,_,_,q⟩:=hs
   exact b1K q
section
variable {X:Cx}{x:Str}{p pos:Pos}{e:Expr}{es:List Expr}{t:TA}{id T:String}{r:List V->Hp->VK->Prop}
def tCB (r:List V->Hp->VK->Prop) (t:TA):TE:=fun σ H Q=>t σ H fun vs H1=>r vs H1 Q
theorem BW (hc:B6 X (.builtin id) r) (hg:Gl X x) (hm:X.mg x=none) (hv:bootBuiltins x=some (.builtin id)) (ha:PA X (e::es) t) (hn:x ≠ "__name__" := by decide) (hdb:(x==("__debug__":Str))=false:=by decide)
   (he:starEach (e::es) X.env=(false,eval e X.env)::starEach es X.env:=by rfl) (hpl:(backTo pos (starEach es X.env)).any (·.1)=false:=by rfl):PE X (.Call (.Name x p) (e::es) [] pos) (tCB r t):=by
 intro pins s σ H Q I h
 refine wpAny_Call_Name_kw (G5 I hg hm hv ?_ hn hdb)
 exact PyProof.Rows.callWith_builtin1 (thn (ha pos pins s σ H _ I h) fun us s1 ⟨vs,H1,I1,r1,q1⟩=>hc pins s1 σ H1 vs us Q I1 r1 q1) he hpl
theorem KW (hc:B6 X (.type T) r) (hg:Gl X x) (hm:X.mg x=none) (hv:bootBuiltins x=some (.type T)) (ha:PA X (e::es) t) (hn:x ≠ "__name__" := by decide) (hdb:(x==("__debug__":Str))=false:=by decide)
   (he:starEach (e::es) X.env=(false,eval e X.env)::starEach es X.env:=by rfl) (hpl:(backTo pos (starEach es X.env)).any (·.1)=false:=by rfl):PE X (.Call (.Name x p) (e::es) [] pos) (tCB r t):=by
 intro pins s σ H Q I h
 refine wpAny_Call_Name_kw (G5 I hg hm hv ?_ hn hdb)
 exact xH (thn (ha pos pins s σ H _ I h) fun us s1 ⟨vs,H1,I1,r1,q1⟩=>hc pins s1 σ H1 vs us Q I1 r1 q1) he hpl
end
end L2
namespace HT
open PySem PyProof.Rows
section
variable {prog:Program}{w:World}{A:Around}{E:Value->Shared->Prop}{s:Shared}
def sIx (n d:Nat):Option Int->Nat
 | none=>d
 | some v=>if v < 0 then (v+(n:Int)).toNat else min v.toNat n
theorem sIx_nat (n d k:Nat):sIx n d (some (k:Int))=min k n:=by
 show(if (k:Int) < 0 then ((k:Int)+(n:Int)).toNat else min (k:Int).toNat n)=min k n
 rw[if_neg (by omega),a7Z]
theorem lO (n d:Nat) (hd:d<=n) (o:Option Int):sIx n d o<=n:=by
 cases o with
 | none=>exact hd
 | some v=>
   show(if v < 0 then (v+(n:Int)).toNat else min v.toNat n)<=n
   by_cases hv:v < 0
   · rw[if_pos hv];omega
   · rw[if_neg hv];exact Nat.min_le_right _ _
theorem X6 (v:Int) (n d:Nat):(if v < 0 then max (v+(n:Int)) 0 else min v (n:Int))=((sIx n d (some v):Nat):Int):=by
 show(if v < 0 then max (v+(n:Int)) 0 else min v (n:Int))=(((if v < 0 then (v+(n:Int)).toNat else min v.toNat n):Nat):Int)
 by_cases hv:v < 0
 · simp only[if_pos hv];omega
 · simp only[if_neg hv];omega
theorem VO (lo hi:Option Int) (n:Nat):a6Z lo hi 1 (n:Int)=(((sIx n 0 lo:Nat):Int),((sIx n n hi:Nat):Int)):=by
 have h1:¬((1:Int) < 0):=by omega
 unfold a6Z
 simp only[h1,if_false]
 refine Prod.ext ?_ ?_
 · cases lo with
   | none=>rfl
   | some v=>exact X6 v n 0
 · cases hi with
   | none=>rfl
   | some v=>exact X6 v n n
theorem VP (i j:Nat):a1X (i:Int) (j:Int) 1=j - i:=by
 unfold a1X
 have h1:(1:Int) > 0:=by omega
 simp only[h1,if_true,Int.ediv_one]
 split <;> omega
theorem N8 {v:Value}{o:Option Int}{Q:Option Int->Shared->Prop}(p:IsPart v o) (h:Q o s):wpAny (model prog w) A (Builtin.Slice.slicePartIndex v) Q E s:=by
 cases p with
 | none=>exact slicePart_none h
 | int i t=>exact slicePart_int h
theorem FG {sl:Addr}{vl vu:Value}{lo hi:Option Int}{n:Nat}{Q:Int×Int×Nat->Shared->Prop}(hs:s.heap.IsSliceOf sl vl vu .none) (pl:IsPart vl lo) (pu:IsPart vu hi)
   (h:Q (((sIx n 0 lo:Nat):Int),1,sIx n n hi - sIx n 0 lo) s):wpAny (model prog w) A (a7V (.ref sl) (pure (n:Int))) Q E s:=by
 obtain⟨os,hos,hcs,hds⟩:=id hs
 unfold a7V Builtin.Slice.sliceFields
 refine zZ (zZ (wpAny_field hos hds (x:=vl) rfl (zZ (wpAny_field hos hds (x:=vu) rfl (zZ (wpAny_field hos hds (x:=.none) rfl (zY ?_)))))))
 refine zZ (slicePart_none ?_)
 show wpAny _ _ (if ((1:Int)==0)=true then _ else _) _ _ s
 rw[if_neg (by decide)]
 refine zZ (N8 pl (zZ (N8 pu (zZ (zY ?_)))))
 show wpAny _ _ (match a6Z lo hi 1 (n:Int) with | (lo,hi)=>pure (lo,(1:Int),a1X lo hi 1)) _ _ s
 rw[VO lo hi n]
 show wpAny _ _ (pure (((sIx n 0 lo:Nat):Int),(1:Int),a1X ((sIx n 0 lo:Nat):Int) ((sIx n n hi:Nat):Int) 1)) _ _ s
 rw[VP]
 exact zY h
theorem aV (xs:Array Value) (i k:Nat):((a0J k).filterMap fun(m:Nat)=>xs[((i:Int)+(m:Int)*1).toNat]?).toArray=((xs.toList.drop i).take k).toArray:=by
 have e:(fun(m:Nat)=>xs[((i:Int)+(m:Int)*1).toNat]?)=fun m=>xs[i+m]?:=by
   funext m
   have:((i:Int)+(m:Int)*1).toNat=i+m:=by omega
   rw[this]
 rw[e]
 have:=pick_run xs i k
 rw[List.filterMap_map] at this
 have e2:((fun x=>xs[x]?)∘fun x=>i+x)=fun m=>xs[i+m]?:=rfl
 rw[e2] at this
 rw[this]
theorem getItem_tuple_cut {t sl:Addr}{items:Array Value}{vl vu:Value}{lo hi:Option Int}{Q:Value->Shared->Prop}(ht:IsTup s.heap t items) (hs:s.heap.IsSliceOf sl vl vu .none) (pl:IsPart vl lo) (pu:IsPart vu hi)
   (hw:¬(sIx items.size 0 lo=0/\sIx items.size items.size hi=items.size))
   (h:Q (.ref s.heap.objs.size) { s with heap:=s.heap.push { cls:=.type "tuple", data:=.seq ((items.toList.drop (sIx items.size 0 lo)).take (sIx items.size items.size hi - sIx items.size 0 lo)).toArray } })
   (hsz:items.size<=sizeLine):wpAny (model prog w) A (getItem (.ref t) (.ref sl)) Q E s:=by
 have htake:sizeOk (.seq ((items.toList.drop (sIx items.size 0 lo)).take (sIx items.size items.size hi - sIx items.size 0 lo)).toArray):=by
   show((items.toList.drop (sIx items.size 0 lo)).take (sIx items.size items.size hi - sIx items.size 0 lo)).toArray.size<=sizeLine
   rw[zJ,a2X,a3V,a4Q]
   omega
 have hj:sIx items.size items.size hi<=items.size:=lO _ _ (zR _) hi
 obtain⟨os,hos,hcs,hds⟩:=id hs
 have hTs:s.TypeIs (.ref sl) "slice" := ⟨os,hos,hcs⟩
 unfold getItem
 try with_reducible refine wpAny_holding ?_
 first | refine zZ (zY ?_) | skip
 refine zZ (wpAny_sequenceKey ht.typeIs (by decide) ?_)
 refine zZ (wpAny_callSpecial?_slot (name:=a0Q "__getitem__") ht.typeIs a3Q
   (wpAny_call_entry a3Q ht.typeIs entry_tuple_getitem ?_ (args_tuple_getitem _ _)))
 show wpAny _ _ (b3X (.ref t) >>= _) _ _ s
 refine zZ (tupleItemsOf_ ht ?_)
 refine zZ (wpAny_typeOf hTs ?_)
 rw[if_pos (by decide)]
 refine zZ (FG hs pl pu ?_)
 have hno:¬((((sIx items.size 0 lo:Nat):Int)==0&&(1:Int)==1&&(sIx items.size items.size hi - sIx items.size 0 lo)==items.size)=true):=by
   intro q
   rw[a1Z,a1Z] at q
   have q1:((sIx items.size 0 lo:Nat):Int)=0:=eq_of_beq q.1.1
   have q2:sIx items.size items.size hi - sIx items.size 0 lo=items.size:=eq_of_beq q.2
   exact hw ⟨by omega,by omega⟩
 show wpAny _ _ (if (((sIx items.size 0 lo:Nat):Int)==0&&(1:Int)==1&&(sIx items.size items.size hi - sIx items.size 0 lo)==items.size)=true then _ else _) _ _ s
 rw[if_neg hno,aV]
 first
   | exact zZ (m:=a1K _) (xM (zY ⟨_,rfl,zY h⟩) htake)
   | exact zZ (m:=a1K _) (xM (zZ (zY (zY ⟨_,rfl,zY h⟩))) htake)
   | exact zZ (zZ (m:=a1K _) (xM (zY (zY ⟨_,rfl,zY h⟩)) htake))
   | exact zZ (zZ (m:=a1K _) (xM (zY ⟨_,rfl,zY h⟩) htake))
end
end HT
namespace L2
open PySem PySem.Spec PyProof.Rows
abbrev TO:=St->Hp->(Option Int->Hp->Prop)->Prop
def PO (X:Cx) (e:Option Expr) (t:TO):Prop:=
 ∀(pins:List (Addr×Obj)) (s:Shared) (σ:St) (H:Hp) (Q:Option Int->Hp->Prop),Inv X pins σ H s->t σ H Q ->
   wpAny (model X.prog X.w) X.A (evalPart e X.env) (fun u s'=>∃o H',Inv X pins σ H' s'/\IsPart u o/\Q o H') X.xe s
def X7:TO:=fun _ H Q=>Q none H
def jR (t:TE):TO:=fun σ H Q=>t σ H fun x H1=>∃i,x = .int i/\Q (some i) H1
section
variable {X:Cx}{e:Expr}{te:TE}{lo hi:Option Expr}{tl th:TO}{pos p2:Pos}
theorem g0:PO X none X7:=by
 intro pins s σ H Q I h
 rw[evalPart_none]
 exact zY ⟨none,H,I,.none,h⟩
theorem g6 (h:PE X e te):PO X (some e) (jR te):=by
 intro pins s σ H Q I hw
 rw[evalPart_some]
 refine thn (h pins s σ H _ I hw) fun u s1 ⟨x,H1,I1,r1,q1⟩=>?_
 obtain⟨i,rfl,q⟩:=q1
 obtain⟨t,rfl⟩:=r1
 exact⟨some i,H1,I1,.int i t,q⟩
def SlR (X:Cx) (r:V->Option Int->Option Int->Hp->VK->Prop):Prop:=
 ∀(pins:List (Addr×Obj)) (s:Shared) (σ:St) (H:Hp) (x:V) (v vl vu:Value) (lo hi:Option Int) (sl:Addr) (Q:VK),Inv X pins σ H s->RelV x v->s.heap.IsSliceOf sl vl vu .none->IsPart vl lo->IsPart vu hi->r x lo hi H Q ->
   ∃T id,typeLookup (.type T) "__getitem__"=pure (some (.builtin id))/\s.TypeIs v T/\wpAny (model X.prog X.w) X.A (getItem v (.ref sl)) (EP X pins σ Q) X.xe s
theorem SlR.or {r r':V->Option Int->Option Int->Hp->VK->Prop}(h:SlR X r) (h':SlR X r'):SlR X (fun x lo hi H Q=>r x lo hi H Q∨r' x lo hi H Q):=by
 intro pins s σ H x v vl vu lo hi sl Q I rx hs pl pu q
 rcases q with q | q
 · exact h pins s σ H x v vl vu lo hi sl Q I rx hs pl pu q
 · exact h' pins s σ H x v vl vu lo hi sl Q I rx hs pl pu q
def tSl (r:V->Option Int->Option Int->Hp->VK->Prop) (te:TE) (tl th:TO):TE:=fun σ H Q=>te σ H fun x H1=>tl σ H1 fun l H2=>th σ H2 fun u H3=>r x l u H3 Q
theorem aW {r:V->Option Int->Option Int->Hp->VK->Prop}(hr:SlR X r) (he:PE X e te) (hl:PO X lo tl) (hu:PO X hi th):PE X (.Subscript e (.Slice lo hi none p2) pos) (tSl r te tl th):=by
 intro pins s σ H Q I h
 refine Subscript_ (thn (he pins s σ H _ I h) fun v s1 ⟨x,H1,I1,r1,q1⟩=>?_)
 refine wpAny_Slice (thn (hl pins s1 σ H1 _ I1 q1) fun vl s2 ⟨l,H2,I2,pl,q2⟩=>thn (hu pins s2 σ H2 _ I2 q2) fun vu s3 ⟨u,H3,I3,pu,q3⟩=>?_)
 rw[evalPart_none]
 refine zY ?_
 have I4:Inv X pins σ H3 { s3 with heap:=s3.heap.push { cls:=.type "slice", data:=.fields #[vl,vu,.none] } }:=I3.kept (t':=s3.toks) fun b ob q=>zW _ q
 obtain⟨T,id,hT,ht,hg⟩:=hr pins { s3 with heap:=s3.heap.push { cls:=.type "slice", data:=.fields #[vl,vu,.none] } } σ H3 x v vl vu l u s3.heap.objs.size Q I4 r1 (Heap.IsSliceOf.new ..) pl pu q3
 show wpAny (model X.prog X.w) X.A (subscriptTail e (.Slice lo hi none p2) v (.ref s3.heap.objs.size)) (EP X pins σ Q) X.xe { s3 with heap:=s3.heap.push { cls:=.type "slice", data:=.fields #[vl,vu,.none] } }
 exact tail_any (ops:=[.ref s3.heap.objs.size,v]) ht hT hg (by with_unfolding_all rfl)
def JJ (xs:List V) (lo hi:Option Int):List V:=(xs.drop (HT.sIx xs.length 0 lo)).take (HT.sIx xs.length xs.length hi - HT.sIx xs.length 0 lo)
theorem LO (xs:List V) (lo hi:Option Int):(JJ xs lo hi).length<=xs.length:=by
 unfold JJ
 rw[a2X,a3V]
 omega
def qI (K:Frg):V->Option Int->Option Int->Hp->VK->Prop:=fun x lo hi H Q=>∃a xs,x = .ref a/\SqT K H a xs /\
 ¬(HT.sIx xs.length 0 lo=0/\HT.sIx xs.length xs.length hi=xs.length)/\∀p,H p=none->Q (.ref p) (upd H p (.tup (JJ xs lo hi)))
theorem lP:SlR X (qI X.K):=by
 intro pins s σ H x v vl vu lo hi sl Q I rx hs pl pu h
 obtain⟨a,xs,rfl,hx,hw,q⟩:=h
 cases rx
 obtain⟨its,r,ht,hz⟩:=I.tuple hx
 have hlen:its.toArray.size=xs.length:=by rw[zJ];exact r.length.symm
 refine⟨"tuple", _,PyProof.Rows.slot_tuple_getitem.lookup,ht.typeIs,?_⟩
 refine HT.getItem_tuple_cut ht hs pl pu (by rw[hlen];exact hw) ?_ (by rw[hlen];exact hz)
 rw[hlen]
 refine⟨.ref s.heap.objs.size,_,I.laid (t':=s.toks) (o:=.tup (JJ xs lo hi)) (fun b ob q=>zW _ q) (zR _) ?_,rfl,q _ (I.hok.fresh (zR _))⟩
 exact⟨zN (LO xs lo hi) hz,_,(r.drop (HT.sIx xs.length 0 lo)).take (HT.sIx xs.length xs.length hi - HT.sIx xs.length 0 lo),IsTup.new _ _⟩
end
def ixN (n:Nat) (i:Int):Option Nat:=if 0<=i then (if i < n then some i.toNat else none) else if -(n:Int)<=i then some (i+n).toNat else none
def atI {α:Type}(xs:List α) (i:Int):Option α:=(ixN xs.length i).bind fun j=>xs[j]?
theorem X8 {n:Nat}{i:Int}{j:Nat}(h:ixN n i=some j):seqIndex? i n=some j/\j < n/\-(n:Int)<=i/\i < n:=by
 unfold ixN at h
 by_cases h0:0<=i
 · rw[if_pos h0] at h
   by_cases h1:i < n
   · rw[if_pos h1] at h
     have e:i.toNat=j:=Option.some.inj h
     exact⟨by rw[seqIndex_of h0 h1,e],by omega,by omega,h1⟩
   · rw[if_neg h1] at h;cases h
 · rw[if_neg h0] at h
   by_cases h1 : -(n:Int)<=i
   · rw[if_pos h1] at h
     have e:(i+n).toNat=j:=Option.some.inj h
     exact⟨by rw[seqIndex_neg (by omega) h1,e],by omega,h1,by omega⟩
   · rw[if_neg h1] at h;cases h
theorem QY {α:Type}{xs:List α}{i:Int}{v:α}(h:atI xs i=some v):∃j,seqIndex? i xs.length=some j/\xs[j]?=some v/\j < xs.length/\-(xs.length:Int)<=i/\i < xs.length:=by
 unfold atI at h
 cases e:ixN xs.length i with
 | none=>rw[e] at h;cases h
 | some j=>
   rw[e] at h
   obtain⟨h1,h2,h3,h4⟩:=X8 e
   exact⟨j,h1,h,h2,h3,h4⟩
theorem AD {α:Type}{xs:List α}{j:Nat}{v:α}(h:xs[j]?=some v):atI xs (j:Int)=some v:=by
 have hj:j < xs.length:=(yT.mp h).1
 have e:ixN xs.length (j:Int)=some j:=by
   unfold ixN
   rw[if_pos (by omega),if_pos (by omega)];simp
 unfold atI;rw[e];exact h
def g9 (b:Expr):Prop:=∀o i,subscripted b false o i=operate [o,i] (getItem o i)
def IxR (X:Cx) (r:R2):Prop:=
 ∀(value slice:Expr) (pins:List (Addr×Obj)) (s:Shared) (σ:St) (H:Hp) (x y:V) (v u:Value) (Q:VK),Inv X pins σ H s->RelV x v->RelV y u->r x y H Q ->
   subscripted slice false v u=operate [v,u] (getItem v u)->wpAny (model X.prog X.w) X.A (subscriptTail value slice v u) (EP X pins σ Q) X.xe s
def MtR (X:Cx) (id:String) (r:V->List V->Hp->VK->Prop):Prop:=
 ∀(pins:List (Addr×Obj)) (s:Shared) (σ:St) (H:Hp) (x:V) (xs:List V) (v:Value) (us:List Value) (Q:VK),Inv X pins σ H s->RelV x v->Vals xs us->r x xs H Q ->
   wpAny (model X.prog X.w) X.A (call (.builtin id) (v::us)) (EP X pins σ Q) X.xe s
section
variable {X:Cx}{a b:Expr}{ta tb:TE}{pos:Pos}
theorem IxR.or {r r':R2}(h:IxR X r) (h':IxR X r'):IxR X (fun x y H Q=>r x y H Q∨r' x y H Q):=by
 intro value slice pins s σ H x y v u Q I rx ry q hs
 rcases q with q | q
 · exact h value slice pins s σ H x y v u Q I rx ry q hs
 · exact h' value slice pins s σ H x y v u Q I rx ry q hs
theorem oY {r:R2}(hr:IxR X r) (ha:PE X a ta) (hb:PE X b tb) (hs:g9 b):PE X (.Subscript a b pos) (tOp r ta tb):=by
 intro pins s σ H Q I h
 exact Subscript_ (l8 ha hb I h fun v u s2 x y H2 I2 rx ry q=>hr a b pins s2 σ H2 x y v u Q I2 rx ry q (hs _ _))
def gA (K:Frg):R2:=fun x y H Q=>∃p xs i v,x = .ref p/\y = .int i/\SqL K H p xs/\atI xs i=some v/\Q v H
def lQ (K:Frg):R2:=fun x y H Q=>∃p xs i v,x = .ref p/\y = .int i/\SqT K H p xs/\atI xs i=some v/\Q v H
def lR:R2:=fun x y H Q=>∃z i c,x = .str z/\y = .int i/\z.length<=sizeLine/\atI z.cps.toList i=some c/\Q (.str ⟨#[c]⟩) H
theorem gB:IxR X (gA X.K):=by
 intro value slice pins s σ H x y v u Q I rx ry h hs
 obtain⟨p,xs,i,z,rfl,rfl,hq,he,q⟩:=h
 cases rx
 obtain⟨t,rfl⟩:=ry
 obtain⟨its,r,pl,hz⟩:=I.list hq
 obtain⟨j,h1,h2,h3,h4,h5⟩:=QY he
 obtain⟨w,ew,rw'⟩:=r.get h2
 have hl:=r.length
 have hn:=N7
 have fin:EP X pins σ Q w s:=⟨z,H,I,rw',q⟩
 by_cases h0:0<=i
 · have hj:i.toNat=j:=by
     rw[seqIndex_of h0 h5] at h1
     exact Option.some.inj h1
   exact item_listR pl.isList h0 (by omega) (by rw[hj];simpa using ew) fin hs
 · have hj:(i+(its.toArray.size:Int)).toNat=j:=by
     rw[seqIndex_neg (by omega) h4] at h1
     rw[zJ,← hl]
     exact Option.some.inj h1
   exact subscriptTail_builtinR (x:=w) pl.isList.typeIs slot_list_getitem.lookup
     (wpAny_getItem_list_neg (Q:=fun r s'=>r=w/\EP X pins σ Q r s') pl.isList (by omega) (by rw[zJ] <;> omega) (by omega) (by rw[hj];simpa using ew) ⟨rfl,fin⟩) hs
theorem lS:IxR X (lQ X.K):=by
 intro value slice pins s σ H x y v u Q I rx ry h hs
 obtain⟨p,xs,i,z,rfl,rfl,hq,he,q⟩:=h
 cases rx
 obtain⟨t,rfl⟩:=ry
 obtain⟨its,r,pl,hz⟩:=I.tuple hq
 obtain⟨j,h1,h2,h3,h4,h5⟩:=QY he
 obtain⟨w,ew,rw'⟩:=r.get h2
 have hl:=r.length
 have hn:=N7
 have fin:EP X pins σ Q w s:=⟨z,H,I,rw',q⟩
 exact subscriptTail_builtinR (x:=w) pl.typeIs slot_tuple_getitem.lookup
   (getItem_tuple (j:=j) (Q:=fun r s'=>r=w/\EP X pins σ Q r s') pl (by omega) (by omega) (by rw[zJ,← hl];exact h1) (by simpa using ew) ⟨rfl,fin⟩) hs
theorem lT:IxR X lR:=by
 intro value slice pins s σ H x y v u Q I rx ry h hs
 obtain⟨z,i,c,rfl,rfl,hz,he,q⟩:=h
 obtain⟨t,rfl⟩:=rx
 obtain⟨t',rfl⟩:=ry
 obtain⟨j,h1,h2,h3,h4,h5⟩:=QY he
 have hl:z.cps.toList.length=z.length:=by simp[Str.length]
 rw[hl] at h1 h4 h5
 have hn:=N7
 exact tail_any (typeIs_str s z t) slot_str_getitem.lookup (getItem_str (c:=c) (by
   have e1:decide (i < -(2 ^ 63:Int))=false:=decide_eq_false (by omega)
   have e2:decide (i≥2 ^ 63)=false:=decide_eq_false (by omega)
   rw[e1,e2,Bool.or_false]) (by rw[h1];simpa using h2) ⟨.str ⟨#[c]⟩,H,I.tok _,⟨_,rfl⟩,q⟩) hs
theorem VQ (its:List Value) (n j:Nat) (u:Value):a6K (·.setIfInBounds j u) { cls:=.type "list", data:=.seq its.toArray n }={ cls:=.type "list", data:=.seq (its.set j u).toArray n }:=by
 simp[a6K]
theorem Inv.lst {pins:List (Addr×Obj)}{σ:St}{H:Hp}{s:Shared}{p:Addr}{xs:List V}(I:Inv X pins σ H s) (h:H p=some (.lst xs)) :
   ∃(its:List Value) (n:Nat),Vals xs its/\s.heap.get? p=some { cls:=.type "list", data:=.seq its.toArray n }/\xs.length<=sizeLine:=by
 obtain⟨z,its,n,r,e⟩:=I.hok p _ h
 exact⟨its,n,r,e,z⟩
theorem Inv.lstUpd {pins:List (Addr×Obj)}{σ:St}{H:Hp}{s:Shared}{p:Addr}{xs ys:List V}{its its':List Value}{n n':Nat}{f:Obj->Obj}(I:Inv X pins σ H s) (h:H p=some (.lst xs))
   (ho:s.heap.get? p=some { cls:=.type "list", data:=.seq its.toArray n }) (hf:f { cls:=.type "list", data:=.seq its.toArray n }={ cls:=.type "list", data:=.seq its'.toArray n' }) (r:Vals ys its') (hz:ys.length<=sizeLine) (t:Nat) :
   Inv X pins σ (upd H p (.lst ys)) { s with heap:=s.heap.update p f,toks:=t }:=by
 have e:(s.heap.update p f).get? p=some { cls:=.type "list", data:=.seq its'.toArray n' }:=by
   rw[Heap.get?_update_self f ho (by rw[hf] <;> rfl),hf]
 refine I.write (x:=p) (e:=p) (by rw[h];trivial) (.inl rfl) (fun b u hb q=>(Heap.get?_update_other _ _ (b1Q hb)).trans q) ⟨_,e⟩ ?_
 exact⟨hz,its',n',r,e⟩
def jS:V->V->V->Hp->(Hp->Prop)->Prop:=fun o i v H Q=>∃p xs k j,o = .ref p/\i = .int k/\H p=some (.lst xs)/\ixN xs.length k=some j/\Q (upd H p (.lst (xs.set j v)))
theorem aX:oN X jS:=by
 intro pins s σ H o i v ov iv u Q I ro ri rv h
 obtain⟨p,xs,k,j,rfl,rfl,hp,hj,q⟩:=h
 cases ro
 obtain⟨t,rfl⟩:=ri
 obtain⟨its,n,r,ho,hz⟩:=I.lst hp
 obtain⟨h1,h2,h3,h4⟩:=X8 hj
 have hl:=r.length
 have hn:=N7
 have I':Inv X pins σ (upd H p (.lst (xs.set j v))) { s with heap:=s.heap.update p (a6K (·.setIfInBounds j u)) }:=
   I.lstUpd hp ho (VQ its n j u) (r.set rv j) (by rw[List.length_set];exact hz) s.toks
 by_cases h0:0<=k
 · have hk:k.toNat=j:=by
     rw[seqIndex_of h0 h4] at h1
     exact Option.some.inj h1
   exact PySem.W.ki_setAt ho h0 (by omega) (by rw[zJ,← hl];exact h4) (by rw[hk];exact⟨_,I',q⟩)
 · have hk:(k+(its.toArray.size:Int)).toNat=j:=by
     rw[seqIndex_neg (by omega) h3] at h1
     rw[zJ,← hl]
     exact Option.some.inj h1
   exact PySem.W.ki_setBack ho (by omega) (by rw[zJ,← hl];exact h3) (by omega) (by rw[hk];exact⟨_,I',q⟩)
theorem QZ (lo hi:Option Int) (n:Nat):(sliceBounds lo hi none n).1=((HT.sIx n 0 lo:Nat):Int)/\(sliceBounds lo hi none n).2.1=((HT.sIx n n hi:Nat):Int)/\(sliceBounds lo hi none n).2.2=1:=by
 refine⟨?_,?_,rfl⟩
 · cases lo with
   | none=>simp[sliceBounds,HT.sIx]
   | some i=>
     simp only[sliceBounds,HT.sIx,Option.getD_none,show(1:Int) > 0 by decide,if_true]
     by_cases h:i < 0
     · simp only[h,if_true] <;> omega
     · simp only[h,if_false] <;> omega
 · cases hi with
   | none=>simp[sliceBounds,HT.sIx]
   | some i=>
     simp only[sliceBounds,HT.sIx,Option.getD_none,show(1:Int) > 0 by decide,if_true]
     by_cases h:i < 0
     · simp only[h,if_true] <;> omega
     · simp only[h,if_false] <;> omega
theorem OZ (its:List Value) (lo hi:Option Int):slicePick its.toArray lo hi none=((its.drop (HT.sIx its.length 0 lo)).take (HT.sIx its.length its.length hi - HT.sIx its.length 0 lo)).toArray:=by
 obtain⟨h1,h2,h3⟩:=QZ lo hi its.toArray.size
 unfold slicePick
 rw[h1,h2,h3]
 simp only[sliceRange_one,pick_run,zJ] <;> rfl
def lU (K:Frg):V->Option Int->Option Int->Hp->VK->Prop:=fun x lo hi H Q=>∃a xs,x = .ref a/\SqL K H a xs/\∀p,H p=none->Q (.ref p) (upd H p (.lst (JJ xs lo hi)))
theorem gC:SlR X (lU X.K):=by
 intro pins s σ H x v vl vu lo hi sl Q I rx hs pl pu h
 obtain⟨a,xs,rfl,hx,q⟩:=h
 cases rx
 obtain⟨its,r,ht,hz⟩:=I.list hx
 have hlen:=r.length
 refine⟨"list", _,slot_list_getitem.lookup,ht.isList.typeIs,?_⟩
 refine wpAny_getItem_list_slice ht.isList hs pl pu .none (by simp) ?_ (by rw[zJ] <;> omega)
 rw[OZ,← hlen]
 refine⟨.ref s.heap.objs.size,_,I.laid (t':=s.toks) (o:=.lst (JJ xs lo hi)) (fun b ob q=>zW _ q) (zR _) ?_,rfl,q _ (I.hok.fresh (zR _))⟩
 exact⟨zN (LO xs lo hi) hz,_,0,(r.drop (HT.sIx xs.length 0 lo)).take (HT.sIx xs.length xs.length hi - HT.sIx xs.length 0 lo),yZ _ rfl⟩
def IT:V->Bool
 | .non=>true
 | .bl _=>true
 | .int _=>true
 | .str _=>true
 | _=>false
def eqV:V->V->Bool
 | .non,.non=>true
 | .bl a,.bl b=>a==b
 | .bl a,.int b=>(if a then 1 else 0)==b
 | .int a,.bl b=>a==(if b then 1 else 0)
 | .int a,.int b=>a==b
 | .str a,.str b=>a==b
 | _,_=>false
theorem lV {A:Around}{s:Shared}{y x:V}{u v:Value}(ry:RelV y u) (rx:RelV x v) (fy:IT y=true) (fx:IT x=true):SeqAt.EqAt A s u v (eqV y x):=by
 cases y with
 | non=>
   cases ry
   cases x with
   | non=>cases rx;exact SeqAt.EqAt.same _
   | bl b=>cases rx;exact SeqAt.EqAt.none_bool b
   | int b=>obtain⟨t,rfl⟩:=rx;exact SeqAt.EqAt.none_int b t
   | str b=>obtain⟨t,rfl⟩:=rx;exact SeqAt.EqAt.none_str b t
   | _=>exact absurd (show false=true from fx) nft
 | bl a=>
   cases ry
   cases x with
   | non=>cases rx;exact SeqAt.EqAt.bool_none a
   | bl b=>cases rx;exact SeqAt.EqAt.bool_bool a b
   | int b=>obtain⟨t,rfl⟩:=rx;exact SeqAt.EqAt.bool_int a b t
   | str b=>obtain⟨t,rfl⟩:=rx;exact SeqAt.EqAt.bool_str a b t
   | _=>exact absurd (show false=true from fx) nft
 | int a=>
   obtain⟨t',rfl⟩:=ry
   cases x with
   | non=>cases rx;exact SeqAt.EqAt.int_none a t'
   | bl b=>cases rx;exact SeqAt.EqAt.int_bool a t' b
   | int b=>obtain⟨t,rfl⟩:=rx;exact SeqAt.EqAt.int_int a t' b t
   | str b=>obtain⟨t,rfl⟩:=rx;exact SeqAt.EqAt.int_str a t' b t
   | _=>exact absurd (show false=true from fx) nft
 | str a=>
   obtain⟨t',rfl⟩:=ry
   cases x with
   | non=>cases rx;exact SeqAt.EqAt.str_none a t'
   | bl b=>cases rx;exact SeqAt.EqAt.str_bool a t' b
   | int b=>obtain⟨t,rfl⟩:=rx;exact SeqAt.EqAt.str_int a t' b t
   | str b=>obtain⟨t,rfl⟩:=rx;exact SeqAt.EqAt.str_str a t' b t
   | _=>exact absurd (show false=true from fx) nft
 | _=>exact absurd (show false=true from fy) nft
def eqU (x:V) (u:Value):Bool:=match u with
 | .none=>eqV .non x
 | .bool b=>eqV (.bl b) x
 | .int i _=>eqV (.int i) x
 | .str z _=>eqV (.str z) x
 | _=>false
theorem aY {x y:V}{u:Value}(r:RelV y u) (f:IT y=true):eqU x u=eqV y x:=by
 cases y with
 | non=>cases r;rfl
 | bl b=>cases r;rfl
 | int i=>obtain⟨t,rfl⟩:=r;rfl
 | str z=>obtain⟨t,rfl⟩:=r;rfl
 | _=>exact absurd (show false=true from f) nft
theorem JX {x:V}:∀{xs:List V}{us:List Value},Vals xs us->xs.all IT=true->us.any (eqU x)=xs.any fun y=>eqV y x
 | _,_,.nil,_=>rfl
 | y::xs,u::us,.cons r t,f=>by
   rw[List.all_cons,a1Z] at f
   rw[a6Q,a6Q,aY r f.1,JX t f.2]
theorem HG {A:Around}{s:Shared}{x:V}{v:Value}(rx:RelV x v) (fx:IT x=true):∀{xs:List V}{us:List Value},Vals xs us->xs.all IT=true->∀u∈us,SeqAt.EqAt A s u v (eqU x u)
 | _,_,.nil,_=>fun u hu=>by cases hu
 | y::xs,u::us,.cons r t,f=>fun u' hu=>by
   rw[List.all_cons,a1Z] at f
   rcases yX.mp hu with rfl | hu
   · rw[aY r f.1];exact lV r rx f.1 fx
   · exact HG rx fx t f.2 u' hu
def inV (x:V) (xs:List V):Bool:=xs.any fun y=>eqV y x
def rIn (K:Frg) (neg:Bool):R2:=fun x y H Q=>∃p xs,y = .ref p/\(SqL K H p xs∨SqT K H p xs)/\IT x=true/\xs.all IT=true/\Q (.bl (if neg then !inV x xs else inV x xs)) H
theorem YQ:OpR X (compareOp .In) (rIn X.K false):=by
 intro pins s σ H x y v u Q I rx ry h
 obtain⟨p,xs,rfl,hq,fx,fs,q⟩:=h
 cases ry
 rcases hq with hq | hq
 · obtain⟨its,r,pl,hz⟩:=I.list hq
   refine SeqAt.in_listAt (eqU x) pl.isList (fun w hw=>HG rx fx r fs w (by simpa using hw)) ⟨.bl _,H,I,rfl,?_⟩
   rw[show its.toArray.any (eqU x)=its.any (eqU x) by simp,JX r fs]
   exact q
 · obtain⟨its,r,pl,hz⟩:=I.tuple hq
   refine SeqAt.in_tupleAt (eqU x) pl (fun w hw=>HG rx fx r fs w (by simpa using hw)) ⟨.bl _,H,I,rfl,?_⟩
   rw[show its.toArray.any (eqU x)=its.any (eqU x) by simp,JX r fs]
   exact q
theorem R0:OpR X (compareOp .NotIn) (rIn X.K true):=by
 intro pins s σ H x y v u Q I rx ry h
 obtain⟨p,xs,rfl,hq,fx,fs,q⟩:=h
 cases ry
 rcases hq with hq | hq
 · obtain⟨its,r,pl,hz⟩:=I.list hq
   refine SeqAt.notIn_listAt (eqU x) pl.isList (fun w hw=>HG rx fx r fs w (by simpa using hw)) ⟨.bl _,H,I,rfl,?_⟩
   rw[show its.toArray.any (eqU x)=its.any (eqU x) by simp,JX r fs]
   exact q
 · obtain⟨its,r,pl,hz⟩:=I.tuple hq
   refine SeqAt.notIn_tupleAt (eqU x) pl (fun w hw=>HG rx fx r fs w (by simpa using hw)) ⟨.bl _,H,I,rfl,?_⟩
   rw[show its.toArray.any (eqU x)=its.any (eqU x) by simp,JX r fs]
   exact q
theorem R5:B6 X (.type "list") (fun xs H Q=>∃p ys,xs=[.ref p]/\(SqL X.K H p ys∨SqT X.K H p ys)/\∀l,H l=none->Q (.ref l) (upd H l (.lst ys))):=by
 intro pins s σ H xs us Q I r h
 obtain⟨p,ys,rfl,hq,q⟩:=h
 obtain⟨u,rfl,rx⟩:=DZ r
 cases rx
 have fin:∀(its:List Value),Vals ys its->ys.length<=sizeLine->∀(h':Heap) (c':Nat),(∀b o',s.heap.get? b=some o'->h'.get? b=some o') ->
     h'.get? s.heap.objs.size=some { cls:=.type "list", dict:=none,data:=.seq its.toArray c',slots:=#[] }->EP X pins σ Q (.ref s.heap.objs.size) { s with heap:=h' }:=fun its r' hz h' c' kp e=>
   ⟨.ref s.heap.objs.size,_,I.laid (t':=s.toks) kp (zR _) (show ObjOk X.prog X.w _ h' _ (.lst ys) from ⟨hz,its,c',r',e⟩),rfl,q _ (I.hok.fresh (zR _))⟩
 rcases hq with hq | hq
 · obtain⟨its,r',pl,hz⟩:=I.list hq
   have hlen:=r'.length
   obtain⟨o,ho,hc,n,hd⟩:=pl.isList
   exact call_list_seq p (.inl rfl) ho hc hd (fun h' c' kp e=>fin its r' hz h' c' kp e) (by simp only[zJ] <;> omega)
 · obtain⟨its,r',pl,hz⟩:=I.tuple hq
   have hlen:=r'.length
   obtain⟨o,ho,hc,n,hd⟩:=pl
   exact call_list_seq p (.inr rfl) ho hc hd (fun h' c' kp e=>fin its r' hz h' c' kp e) (by simp only[zJ] <;> omega)
theorem P0:B6 X (.type "tuple") (fun xs H Q=>∃p ys,xs=[.ref p]/\((SqL X.K H p ys/\∀l,H l=none->Q (.ref l) (upd H l (.tup ys)))∨(SqT X.K H p ys/\Q (.ref p) H))):=by
 intro pins s σ H xs us Q I r h
 obtain⟨p,ys,rfl,h⟩:=h
 obtain⟨u,rfl,rx⟩:=DZ r
 cases rx
 rcases h with ⟨hq,q⟩ | ⟨hq,q⟩
 · obtain⟨its,r',pl,hz⟩:=I.list hq
   have hlen:=r'.length
   refine call_tuple_list pl.isList (fun h' kp=>?_) (by simp only[zJ] <;> omega)
   have I1:Inv X pins σ H { s with heap:=h' }:=I.kept (t':=s.toks) kp
   have I2:Inv X pins σ (upd H h'.objs.size (.tup ys)) { s with heap:=h'.push { cls:=.type "tuple", data:=.seq its.toArray } }:=
     I1.laid (t':=s.toks) (fun b o e=>zW _ e) (zR _) (show ObjOk X.prog X.w _ _ _ (.tup ys) from ⟨hz,its,r',IsTup.new _ _⟩)
   exact⟨.ref h'.objs.size,_,I2,rfl,q _ (I1.hok.fresh (zR _))⟩
 · obtain⟨its,r',pl,hz⟩:=I.tuple hq
   exact call_tuple_same pl ⟨.ref p,H,I,rfl,q⟩
def tyV (K:Frg) (T:String) (x:V) (H:Hp):Prop:=match x with
 | .str _=>T = "str"
 | .int _=>T = "int"
 | .ref p=>(T = "list" /\ ∃xs,SqL K H p xs)∨(T = "tuple" /\ ∃o,K.lookup p=some o/\o.cls = .type "tuple" /\ o.dict=none) ∨
     (T = "dict" /\ ((∃kvs,H p=some (.dK kvs))∨∃kvs,H p=some (.dT kvs)))∨(T = "set" /\ ∃S n,H p=some (.set S n))
 | _=>False
theorem lW {pins:List (Addr×Obj)}{σ:St}{H:Hp}{s:Shared}{T:String}{x:V}{v:Value}(I:Inv X pins σ H s) (r:RelV x v) (ty:tyV X.K T x H) :
   s.TypeIs v T/\∀a,v = .ref a->∃ob,s.heap.get? a=some ob/\ob.dict=none:=by
 cases x with
 | str z=>
   obtain⟨t,rfl⟩:=r
   cases (show T = "str" from ty)
   exact⟨typeIs_str s z t,fun _ e=>nomatch e⟩
 | int i=>
   obtain⟨t,rfl⟩:=r
   cases (show T = "int" from ty)
   exact⟨typeIs_int s i t,fun _ e=>nomatch e⟩
 | ref p=>
   cases r
   rcases ty with ⟨rfl,xs,hq⟩ | ⟨rfl,o,hk,hc,hd⟩ | ⟨rfl,hk⟩ | ⟨rfl,S,n,hk⟩
   · obtain⟨its,_,pl,_⟩:=I.list hq
     refine⟨pl.isList.typeIs,fun a e=>?_⟩
     cases e
     obtain⟨o,n,e,c,hd,_⟩:=pl
     exact⟨o,e,hd⟩
   · refine⟨⟨o,I.kIn p o hk,hc⟩,fun a e=>?_⟩
     cases e
     exact⟨o,I.kIn _ o hk,hd⟩
   · have z:∃o,s.heap.get? p=some o/\o.ExactDict:=by
       rcases hk with ⟨kvs,hk⟩ | ⟨kvs,hk⟩
       · obtain⟨_,_,_,_,o,_,_,e,ex,_⟩:=I.hok p _ hk
         exact⟨o,e,ex⟩
       · obtain⟨_,_,_,_,o,_,_,e,ex,_⟩:=I.hok p _ hk
         exact⟨o,e,ex⟩
     obtain⟨o,e,ex⟩:=z
     refine⟨⟨o,e,ex.1⟩,fun a e2=>?_⟩
     cases e2
     exact⟨o,e,ex.2.1⟩
   · obtain⟨o,_,_,_,e,ex,_⟩:=I.hok p _ hk
     refine⟨⟨o,e,ex.1⟩,fun a e2=>?_⟩
     cases e2
     exact⟨o,e,ex.2.1⟩
 | _=>exact b1K ty
def tBM (K:Frg) (T:String) (r:V->List V->Hp->VK->Prop) (to:TE) (t:TA):TE:=fun σ H Q=>to σ H fun x H1=>tyV K T x H1/\t σ H1 fun xs H2=>r x xs H2 Q
variable {o e:Expr}{es:List Expr}{to:TE}{t:TA}{name:Str}{apos cpos:Pos}{T id:String}{r:V->List V->Hp->VK->Prop}
theorem oZ (pa:PlainAttrs T) (slot:Slot T name id) (hty:typeOf (.builtin id)=pure (.type "method_descriptor")) (hm:MtR X id r) (ho:PE X o to) (ha:PA X (e::es) t)
   (hbase:attributeBase o name X.env (eval o X.env)=eval o X.env:=by rfl)
   (hfew:((backTo cpos (starEach (e::es) X.env)).all (fun x=>!x.1)&&(backToKw cpos (keywordEach [] X.env)).all (fun x=>x.1.isSome)
     && decide ((e::es).length+([]:List Keyword).length+(if ([]:List Keyword).isEmpty then 0 else 1) < 30))=true:=by rfl)
   (hline:(apos.endLine==cpos.line)=true:=by rfl) (hs:starEach (e::es) X.env=(false,eval e X.env)::starEach es X.env:=by rfl) (hplain:(backTo cpos (starEach es X.env)).any (·.1)=false:=by rfl) :
   PE X (.Call (.Attribute o name apos) (e::es) [] cpos) (tBM X.K T r to t):=by
 intro pins s σ H Q I h
 refine wpAny_Call_method_late hbase hfew hline rfl (thn (ho pins s σ H _ I h) fun v s1 ⟨x,H1,I1,r1,ty,q1⟩=>?_)
 obtain⟨h1,h2⟩:=lW I1 r1 ty
 refine⟨T,id,pa,slot,hty,h1,h2,?_⟩
 have hA:=ha cpos pins s1 σ H1 _ I1 q1
 rw[hs] at hA ⊢
 refine b2J (by show(false||(backTo cpos (starEach es X.env)).any (·.1))=false;rw[hplain] <;> rfl) (Calls.evalArgs_plain ?_)
 exact thn hA fun us s2 ⟨vs,H2,I2,r2,q2⟩=>hm pins s2 σ H2 x vs v us Q I2 r1 r2 q2
end
def MtM (X:Cx) (id:String) (r:V->List V->Hp->VK->Prop):Prop:=
 ∀(pins:List (Addr×Obj)) (s:Shared) (σ:St) (H:Hp) (x:V) (xs:List V) (v:Value) (us:List Value) (Q:VK),Inv X pins σ H s->RelV x v->Vals xs us->r x xs H Q ->
   wpAny (model X.prog X.w) X.A (call (.builtin id) (v::us)) (EP X pins σ Q) X.xe s
theorem Vals.one:∀{x:V}{us:List Value},Vals [x] us->∃u,us=[u]/\RelV x u
 | _,_,.cons r .nil=>⟨_,rfl,r⟩
section
variable {X:Cx}{pins:List (Addr×Obj)}{σ:St}{H:Hp}{s:Shared}{l b:Addr}{xs ys zs:List V}
theorem Inv.lset {its its':List Value}{n:Nat}{f:Array Value->Array Value}{t':Nat}(I:Inv X pins σ H s) (hH:H l=some (.lst xs))
   (e:s.heap.get? l=some { cls:=.type "list", data:=.seq its.toArray n }) (hf:f its.toArray=its'.toArray) (hv:Vals ys its') (hz:ys.length<=sizeLine) :
   Inv X pins σ (upd H l (.lst ys)) { s with heap:=s.heap.update l (a6K f),toks:=t' }:=by
 have q:=PySem.IsL.update e f
 rw[hf] at q
 refine I.write (x:=l) (e:=l) (by rw[hH];exact trivial) (.inl rfl) (fun b' u hb hu=>(Heap.get?_update_other s.heap (a6K f) (b1Q hb)).trans hu) ⟨_,q⟩ ?_
 exact⟨hz,its',_,hv,q⟩
theorem Inv.lnew {its:List Value}{t':Nat}(I:Inv X pins σ H s) (hv:Vals ys its) (hz:ys.length<=sizeLine) :
   Inv X pins σ (upd H s.heap.objs.size (.lst ys)) { s with heap:=s.heap.push { cls:=.type "list", data:=.seq its.toArray },toks:=t' }:=
 I.laid (fun _ _ q=>zW _ q) (zR _) ⟨hz,its,0,hv,yZ _ rfl⟩
theorem Inv.fresh (I:Inv X pins σ H s):H s.heap.objs.size=none:=I.hok.fresh (zR _)
theorem Inv.lstM (I:Inv X pins σ H s) (hH:H l=some (.lst xs)):xs.length<=sizeLine/\∃(its:List Value) (n:Nat),Vals xs its/\xs.length=its.length/\s.heap.get? l=some { cls:=.type "list", data:=.seq its.toArray n }:=by
 obtain⟨z,its,n,r,e⟩:=I.hok l _ hH
 exact⟨z,its,n,r,r.length,e⟩
end
section
variable {X:Cx}
def R6:V->List V->Hp->VK->Prop:=fun x vs H Q=>∃l xs y,x = .ref l/\vs=[y]/\H l=some (.lst xs)/\xs.length < sizeLine/\Q .non (upd H l (.lst (xs++[y])))
theorem KY:MtM X "list.append" R6:=by
 intro pins s σ H x vs v us Q I rx rv h
 obtain⟨l,xs,y,rfl,rfl,hH,hz,q⟩:=h
 cases rx
 obtain⟨u,rfl,ru⟩:=rv.one
 obtain⟨z,its,n,r,hl,e⟩:=I.lstM hH
 refine call_meets F.slot_list_append ⟨_,e,rfl⟩ F.entry_list_append (F.args_list_append_2 _ _) (PySem.list_append l its.toArray n u (by rw[zJ];omega)) ⟨e,?_⟩
 refine⟨.non,_,I.lset (its':=its++[u]) hH e (by simp) (r.append (.cons ru .nil)) ?_,rfl,q⟩
 rw[yY,List.length_singleton]
 omega
end
section
variable {κ:Type}[DecidableEq κ]
def G7 (kvs:List (κ×V)) (k:κ):Option V:=(kvs.find? fun kv=>decide (kv.1=k)).map (·.2)
def CV (kvs:List (κ×V)) (k:κ) (v:V):List (κ×V):=
 if (kvs.any fun kv=>decide (kv.1=k))=true then kvs.map (fun kv=>if kv.1=k then (kv.1,v) else kv) else kvs++[(k,v)]
theorem JY {p:κ×V}{r:List (κ×V)}{k:κ}(e:p.1=k):G7 (p::r) k=some p.2:=by simp[G7,a7Q,e]
theorem HH {p:κ×V}{r:List (κ×V)}{k:κ}(e:¬p.1=k):G7 (p::r) k=G7 r k:=by simp[G7,a7Q,e]
theorem TB (k:κ):∀kvs:List (κ×V),(kvs.any fun kv=>decide (kv.1=k))=(G7 kvs k).isSome
 | []=>rfl
 | p::r=>by
   rw[a6Q]
   by_cases e:p.1=k
   · simp only[JY e,decide_eq_true e,Bool.true_or,Option.isSome_some]
   · rw[HH e,decide_eq_false e,Bool.false_or];exact TB k r
theorem EQ (kvs:List (κ×V)) (k:κ) (v:V):(CV kvs k v).length<=kvs.length+1:=by
 unfold CV
 split
 · rw[zX];omega
 · rw[yY,yR,b4J];omega
theorem RelO.isSome_eq {o:Option V}{u:Option Value}(r:RelO o u):o.isSome=u.isSome:=by
 cases o with
 | none=>cases u with
   | none=>rfl
   | some _=>exact(show False from r).elim
 | some _=>cases u with
   | none=>exact(show False from r).elim
   | some _=>rfl
theorem RelO.getD {o:Option V}{u:Option Value}{d:V}{d':Value}(r:RelO o u) (rd:RelV d d'):RelV (o.getD d) (u.getD d'):=by
 cases o with
 | none=>cases u with
   | none=>exact rd
   | some _=>exact(show False from r).elim
 | some _=>cases u with
   | none=>exact(show False from r).elim
   | some _=>exact r
theorem KV.val {kvs:List (κ×V)}{vs:List (κ×Value)}(r:KV kvs vs) (k:κ):RelO (G7 kvs k) (valueAt vs k):=by
 unfold KV at r
 induction r with
 | nil=>exact a8X
 | @cons p q ps qs h t ih=>
   obtain⟨h1,h2⟩:=h
   by_cases e:p.1=k
   · have e':q.1=k:=h1.symm.trans e
     have b:valueAt (q::qs) k=some q.2:=by simp[valueAt,a7Q,e']
     rw[JY e,b];exact h2
   · have e':¬q.1=k:=fun z=>e (h1.trans z)
     have b:valueAt (q::qs) k=valueAt qs k:=by simp[valueAt,a7Q,e']
     rw[HH e,b];exact ih
theorem KV.any {kvs:List (κ×V)}{vs:List (κ×Value)}(r:KV kvs vs) (k:κ):(kvs.any fun kv=>decide (kv.1=k))=vs.any fun kv=>decide (kv.1=k):=by
 unfold KV at r
 induction r with
 | nil=>rfl
 | cons h t ih=>rw[a6Q,a6Q,ih,h.1]
theorem KV.repl {kvs:List (κ×V)}{vs:List (κ×Value)}(r:KV kvs vs) (k:κ) {y:V}{u:Value}(ry:RelV y u) :
   KV (kvs.map fun kv=>if kv.1=k then (kv.1,y) else kv) (vs.map fun kv=>if kv.1=k then (kv.1,u) else kv):=by
 unfold KV at r ⊢
 induction r with
 | nil=>exact .nil
 | @cons p q ps qs h t ih=>
   rw[zI,zI]
   refine .cons ?_ ih
   obtain⟨h1,h2⟩:=h
   by_cases e:p.1=k
   · rw[if_pos e,if_pos (h1.symm.trans e)];exact⟨h1,ry⟩
   · rw[if_neg e,if_neg (fun z=>e (h1.trans z))];exact⟨h1,h2⟩
theorem KV.put {kvs:List (κ×V)}{vs:List (κ×Value)}(r:KV kvs vs) (k:κ) {y:V}{u:Value}(ry:RelV y u):KV (CV kvs k y) (stored vs k u):=by
 unfold CV stored
 rw[r.any k]
 by_cases e:(vs.any fun kv=>decide (kv.1=k))=true
 · rw[if_pos e,if_pos e];exact r.repl k ry
 · rw[if_neg e,if_neg e];exact Paired.snoc r ⟨rfl,ry⟩
theorem KV.length {kvs:List (κ×V)}{vs:List (κ×Value)}(r:KV kvs vs):kvs.length=vs.length:=Paired.length r
end
theorem LP {P:Program}{w:World}{k:Key}{u:Value}(r:RelV (kV k) u):(AK P w).is k u=true:=by
 cases k with
 | inl i=>obtain⟨t,e⟩:=(show ∃t,u=b7Q i t from r);subst e;exact T4 P w i t
 | inr x=>obtain⟨t,e⟩:=(show ∃t,u=Value.str x t from r);subst e;exact LN P w x t
theorem PY {P:Program}{w:World}:∀{ks:List Key}{us:List Value},Vals (ks.map kV) us->ItemsAre (AK P w) ks us
 | [],_,r=>by rw[a5Z] at r;cases r;exact .nil
 | k::ks,_,r=>by
   rw[zI] at r
   cases r with
   | cons h t=>exact .cons (LP h) (PY t)
abbrev KT (H:Hp):List (List Key×V)->List (List Key×Addr×Value)->Prop:=Paired fun p q=>p.1=q.1/\H q.2.1=some (.tup (p.1.map kV))/\RelV p.2 q.2.2
theorem KT.val {H:Hp}{kvs:List (List Key×V)}{xs:List (List Key×Addr×Value)}(r:KT H kvs xs) (k:List Key):RelO (G7 kvs k) ((atKey xs k).map (·.2)):=by
 induction r with
 | nil=>exact a8X
 | @cons p q ps qs h t ih=>
   obtain⟨h1,_,h2⟩:=h
   by_cases e:p.1=k
   · have e':q.1=k:=h1.symm.trans e
     have b:atKey (q::qs) k=some q.2:=by simp[atKey,a7Q,e']
     rw[JY e,b];exact h2
   · have e':¬q.1=k:=fun z=>e (h1.trans z)
     have b:atKey (q::qs) k=atKey qs k:=by simp[atKey,a7Q,e']
     rw[HH e,b];exact ih
theorem KT.repl {H:Hp}{kvs:List (List Key×V)}{xs:List (List Key×Addr×Value)}(r:KT H kvs xs) (k:List Key) {y:V}{u:Value}(ry:RelV y u) :
   KT H (kvs.map fun kv=>if kv.1=k then (kv.1,y) else kv) (xs.map (putAt k u)):=by
 induction r with
 | nil=>exact .nil
 | @cons p q ps qs h t ih=>
   rw[zI,zI]
   refine .cons ?_ ih
   obtain⟨h1,h2,h3⟩:=h
   unfold putAt
   by_cases e:p.1=k
   · rw[if_pos e,if_pos (h1.symm.trans e)];exact⟨h1,h2,ry⟩
   · rw[if_neg e,if_neg (fun z=>e (h1.trans z))];exact⟨h1,h2,h3⟩
theorem KT.put {H:Hp}{kvs:List (List Key×V)}{xs:List (List Key×Addr×Value)}(r:KT H kvs xs) (k:List Key) {b:Addr}{y:V}{u:Value}(hb:H b=some (.tup (k.map kV))) (ry:RelV y u) :
   KT H (CV kvs k y) (storedH xs k b u):=by
 have e:(kvs.any fun kv=>decide (kv.1=k))=(atKey xs k).isSome:=by
   rw[TB,(r.val k).isSome_eq,Option.isSome_map]
 unfold CV storedH
 rw[e]
 by_cases q:(atKey xs k).isSome=true
 · rw[if_pos q,if_pos q];exact r.repl k ry
 · rw[if_neg q,if_neg q];exact Paired.snoc r ⟨rfl,hb,ry⟩
theorem KT.keeps {H H':Hp}{kvs:List (List Key×V)}{xs:List (List Key×Addr×Value)}(r:KT H kvs xs) (ht:∀b ys,H b=some (.tup ys)->H' b=some (.tup ys)):KT H' kvs xs:=
 Paired.mapP r fun _ _ z=>⟨z.1,ht _ _ z.2.1,z.2.2⟩
section
variable {P:Program}{w:World}{H:Hp}{h:Heap}{a:Addr}
theorem jT {u:HO}(ok:HOk P w H h) (e:Rd H a u):ObjOk P w H h a u:=e.ok ok
theorem IU {kvs:List (Key×V)}(ok:HOk P w H h) (e:Rd H a (.dK kvs)):kvs.length<=sizeLine/\(a==sysModules)=false/\∃vs,KV kvs vs/\h.DictOf (AK P w) a vs:=
 show ObjOk P w H h a (.dK kvs) from jT ok e
theorem aZ {kvs:List (Key×V)}(ok:HOk P w H h) (e:H a=some (.dK kvs)):kvs.length<=sizeLine/\(a==sysModules)=false/\∃vs,KV kvs vs/\h.DictOf (AK P w) a vs:=IU ok (.inl e)
theorem N9 {ks:List Key}(ok:HOk P w H h) (e:H a=some (.tup (ks.map kV))):(tupleKind (AK P w)).is h ks a:=by
 obtain⟨_,its,r,o,h1,h2,n,h3⟩:=(show ObjOk P w H h a (.tup (ks.map kV)) from ok a _ e)
 exact⟨o,its.toArray,n,h1,h2,h3,by simpa using PY r⟩
theorem PZ {kvs:List (List Key×V)}(ok:HOk P w H h) (e:Rd H a (.dT kvs)):kvs.length<=sizeLine/\(a==sysModules)=false /\
   ∃xs,KT H kvs xs/\h.DictOfH (tupleKind (AK P w)) a xs:=by
 obtain⟨z,y,xs,r,o,es,ep,h1,h2,h3,h4,h5⟩:=(show ObjOk P w H h a (.dT kvs) from jT ok e)
 refine⟨z,y,xs,r,o,es,ep,h1,h2,h3,h4,fun x hx=>?_,h5⟩
 have all:∀{l:List (List Key×V)}{m:List (List Key×Addr×Value)},KT H l m->∀x∈m,(tupleKind (AK P w)).is h x.1 x.2.1:=by
   intro l m q
   induction q with
   | nil=>intro x hx;exact nomatch hx
   | @cons p q ps qs hq t ih=>
     intro x hx
     rcases yX.mp hx with e | hx
     · subst e
       exact N9 ok (by rw[← hq.1];exact hq.2.1)
     · exact ih x hx
 exact all r x hx
theorem p6 {kvs:List (List Key×V)}(ok:HOk P w H h) (e:H a=some (.dT kvs)):kvs.length<=sizeLine/\(a==sysModules)=false /\
   ∃xs,KT H kvs xs/\h.DictOfH (tupleKind (AK P w)) a xs:=PZ ok (.inl e)
end
def VR (H:Hp) (a:Addr) (y:V) (r:Option V):Prop:=
 (∃kvs k,Rd H a (.dK kvs)/\y=kV k/\r=G7 kvs k)∨∃kvs k b,Rd H a (.dT kvs)/\y = .ref b/\H b=some (.tup (k.map kV))/\r=G7 kvs k
def p7 (H:Hp) (a:Addr) (y v:V) (H':Hp):Prop:=
 (∃kvs k,H a=some (.dK kvs)/\y=kV k/\kvs.length < sizeLine/\H'=upd H a (.dK (CV kvs k v))) ∨
 ∃kvs k b,H a=some (.dT kvs)/\y = .ref b/\H b=some (.tup (k.map kV))/\kvs.length < sizeLine/\H'=upd H a (.dT (CV kvs k v))
section
variable {X:Cx}{pins:List (Addr×Obj)}{σ:St}{H:Hp}{s:Shared}{a:Addr}{y v:V}{u r:Value}{o:Option V}{A:Around}{E:Value->Shared->Prop}
theorem Inv.big (I:Inv X pins σ H s):sysModules < s.heap.objs.size:=by
 have h:mainGlobals < s.heap.objs.size:=(I.mod.glob.keeps I.bk).lt
 exact Nat.lt_trans (by decide) h
theorem YR {Q:Value->Shared->Prop}(hu:A.units+1 < cLine) (I:Inv X pins σ H s) (g:VR H a y (some v)) (ry:RelV y u) (h:∀w' s',Inv X pins σ H s'->RelV v w'->Q w' s') :
   wpAny (model X.prog X.w) A (getItem (.ref a) u) Q E s:=by
 rcases g with ⟨kvs,k,e,ey,l⟩ | ⟨kvs,k,b,e,ey,eb,l⟩
 · subst ey
   obtain⟨z,hd,vs,rel,dd⟩:=IU I.hok e
   obtain⟨w',hw,rw'⟩:=RelO.some_of (v:=v) (o:=valueAt vs k) (by rw[l];exact rel.val k)
   exact wpAny_getItem_of (LP ry) dd.mapOf hw (h w' _ (I.tok _) rw')
 · subst ey
   cases (show u=a0X b from ry)
   obtain⟨z,hd,xs,rel,dd⟩:=PZ I.hok e
   obtain⟨w',hw,rw'⟩:=RelO.some_of (v:=v) (o:=(atKey xs k).map (·.2)) (by rw[l];exact rel.val k)
   obtain⟨p,hp,hp2⟩:=Option.map_eq_some_iff.mp hw
   refine wpAny_getItem_heap (tupleKind_room_in1 hu) (N9 I.hok eb) dd hp ?_
   rw[hp2]
   exact h w' _ (I.tok _) rw'
theorem qJ {Q:Value->Shared->Prop}(hu:A.units+1 < cLine) (I:Inv X pins σ H s) (g:VR H a y o) (ry:RelV y u) (h:∀s',Inv X pins σ H s'->Q (.bool o.isSome) s') :
   wpAny (model X.prog X.w) A (compareOp .In u (.ref a)) Q E s:=by
 rcases g with ⟨kvs,k,e,ey,l⟩ | ⟨kvs,k,b,e,ey,eb,l⟩
 · subst ey
   obtain⟨z,hd,vs,rel,dd⟩:=IU I.hok e
   refine wpAny_in_of (LP ry) hd dd.mapOf ?_
   rw[← (rel.val k).isSome_eq,← l]
   exact h _ (I.tok _)
 · subst ey
   cases (show u=a0X b from ry)
   obtain⟨z,hd,xs,rel,dd⟩:=PZ I.hok e
   refine wpAny_in_heap (tupleKind_room_in1 hu) (N9 I.hok eb) hd dd ?_
   have q:=(rel.val k).isSome_eq
   rw[Option.isSome_map] at q
   rw[← q,← l]
   exact h _ (I.tok _)
theorem MV {h':Heap}{t':Nat}{ob:HO}(I:Inv X pins σ H s) (mu:Mut (H a)) (hs:Heap.SameBut a s.heap h') (he:∃q,h'.get? a=some q) (new:ObjOk X.prog X.w (upd H a ob) h' a ob) :
   Inv X pins σ (upd H a ob) { s with heap:=h',toks:=t' }:=
 I.write (x:=a) (e:=a) mu (.inl rfl) (fun b q hb z=>(hs.2 b hb).trans z) he new
theorem VS {P:Program}{w:World}{H':Hp}{h':Heap}{kvs:List (Key×V)}{vs:List (Key×Value)}(z:kvs.length<=sizeLine) (hd:(a==sysModules)=false) (rel:KV kvs vs) (dd:h'.DictOf (AK P w) a vs) :
   ObjOk P w H' h' a (.dK kvs):=⟨z,hd,vs,rel,dd⟩
theorem YS {H':Hp}{Q:Unit->Shared->Prop}(hu:A.units+1 < cLine) (I:Inv X pins σ H s) (g:p7 H a y v H') (ry:RelV y u) (rv:RelV v r) (h:∀s',Inv X pins σ H' s'->Q () s') :
   wpAny (model X.prog X.w) A (setItem (.ref a) u r) Q E s:=by
 rcases g with ⟨kvs,k,e,ey,l,eH⟩ | ⟨kvs,k,b,e,ey,eb,l,eH⟩
 · subst ey eH
   obtain⟨z,hd,vs,rel,dd⟩:=aZ I.hok e
   have hz:vs.length<=sizeLine:=by rw[← rel.length];exact z
   have hl:(CV kvs k v).length<=sizeLine:=by have:=EQ kvs k v;omega
   refine wpAny_setItem_pairs (hsz:=hz) (LP ry) dd fun h' dd' hs=>h _ ?_
   have he:∃q,h'.get? a=some q:=let ⟨q,_,_,hq,_⟩:=dd';⟨q,hq⟩
   exact MV I (by rw[e];exact a8X) hs he (VS hl hd (rel.put k rv) dd')
 · subst ey eH
   cases (show u=a0X b from ry)
   obtain⟨z,hd,xs,rel,dd⟩:=p6 I.hok e
   have hz:xs.length<=sizeLine:=by rw[← Paired.length rel];exact z
   have hl:(CV kvs k v).length<=sizeLine:=by have:=EQ kvs k v;omega
   refine wpAny_setItem_heap (hsz:=hz) (tupleKind_room_in1 hu) (N9 I.hok eb) dd fun h' dd' hs=>h _ ?_
   obtain⟨q,es,ep,hq,h2,h3,h4,_,h5⟩:=dd'
   refine MV I (by rw[e];exact a8X) hs ⟨q,hq⟩ ⟨hl,hd,_,(rel.put k eb rv).keeps fun c ys ec=>?_,q,es,ep,hq,h2,h3,h4,h5⟩
   rw[AG (oG ec e (fun z=>nomatch z))]
   exact ec
end
def p9 (i:Expr):Prop:=∀ov iv,subscripted i false ov iv=operate [ov,iv] (getItem ov iv)
theorem gD {prog:Program}{w:World}{A:Around}{E:Value->Shared->Prop}{s:Shared}{env:Env}{value slice:Expr}{pos:Pos}{T id:String}{Q:Value->Shared->Prop}
   (hl:typeLookup (.type T) "__getitem__"=pure (some (.builtin id))) (hs:p9 slice)
   (h:wpAny (model prog w) A (eval value env) (fun o s₁=>wpAny (model prog w) A (eval slice env) (fun i s₂=>s₂.TypeIs o T/\wpAny (model prog w) A (getItem o i) Q E s₂) E s₁) E s) :
   wpAny (model prog w) A (eval (.Subscript value slice pos) env) Q E s:=by
 refine Subscript_ (wpAny_mono h (fun o s₁ h₁=>wpAny_mono h₁ (fun i s₂ h₂=>?_) fun _ _ x=>x) fun _ _ x=>x)
 obtain⟨hT,h₂⟩:=h₂
 unfold subscriptTail
 refine zZ ?_
 rw[getitemInPython_of_ne hT.not_modules]
 refine zZ (wpAny_specialOf hT hl ?_)
 have fin:wpAny (model prog w) A (subscripted slice false o i) (fun r s₃=>wpAny (model prog w) A (letTemporaryGo value o r >>= fun _=>pure r) Q E s₃) E s₂:=by
   rw[hs o i]
   exact wpAny_operating (wpAny_mono h₂ (fun r s₃ h₃=>zZ (wpAny_letTemporaryGo (zY h₃))) fun _ _ x=>x)
 first
   | exact zY (zZ fin)
   | exact zZ (zY (zZ fin))
   | exact zZ fin
theorem TC {X:Cx}{pins:List (Addr×Obj)}{σ:St}{H:Hp}{s:Shared}{a:Addr}{y:V}{o:Option V}(I:Inv X pins σ H s) (g:VR H a y o):s.TypeIs (.ref a) "dict" := by
 rcases g with ⟨kvs,k,e,_,_⟩ | ⟨kvs,k,b,e,_,_,_⟩
 · obtain⟨_,_,vs,_,dd⟩:=IU I.hok e
   exact dd.typeIs
 · obtain⟨_,_,xs,_,dd⟩:=PZ I.hok e
   exact dd.typeIs
def bA (td ty:TE):TE:=fun σ H Q=>td σ H fun x H1=>ty σ H1 fun y H2=>∃a v,x = .ref a/\VR H2 a y (some v)/\Q v H2
def lX (ty td:TE):TE:=fun σ H Q=>ty σ H fun y H1=>td σ H1 fun x H2=>∃a o,x = .ref a/\VR H2 a y o/\Q (.bl o.isSome) H2
def bB (td ty tv:TE):TS:=fun D σ H=>tv σ H fun v H1=>td σ H1 fun x H2=>ty σ H2 fun y H3=>∃a H4,x = .ref a/\p7 H3 a y v H4/\D.nx σ H4
section
variable {X:Cx}{o i e value:Expr}{pos pos' tpos:Pos}{td ty tv:TE}
theorem MW (hu:X.A.units+1 < cLine) (ho:PE X o td) (hi:PE X i ty) (hs:p9 i):PE X (.Subscript o i pos) (bA td ty):=by
 intro pins s σ H Q I h
 refine gD PySem.F.slot_dict_getitem.lookup hs (thn (ho pins s σ H _ I h) fun u s1 ⟨x,H1,I1,rx,q1⟩=>thn (hi pins s1 σ H1 _ I1 q1) fun iv s2 ⟨y,H2,I2,ry,a,v,ex,g,q2⟩=>?_)
 subst ex
 obtain rfl:u=a0X a:=rx
 exact⟨TC I2 g,YR hu I2 g ry fun w' s3 I3 rw'=>⟨v,H2,I3,rw',q2⟩⟩
theorem VT (hu:X.A.units+1 < cLine) (hi:PE X i ty) (ho:PE X o td):PC X .In i o (lX ty td):=by
 intro pins s σ H Q I h
 refine thn (hi pins s σ H _ I h) fun iv s1 ⟨y,H1,I1,ry,q1⟩=>thn (ho pins s1 σ H1 _ I1 q1) fun u s2 ⟨x,H2,I2,rx,a,ov,ex,g,q2⟩=>?_
 subst ex
 obtain rfl:u=a0X a:=rx
 exact qJ hu I2 g ry fun s3 I3=>⟨.bl ov.isSome,H2,I3,rfl,q2⟩
theorem R9 (hu:X.A.units+1 < cLine) (ho:PE X o td) (hi:PE X i ty) (hv:PE X value tv) (hs:swapsWith value (some (.Subscript o i pos')) pos.line X.env=pure false) :
   PS X (.Assign [.Subscript o i pos'] value pos) (bB td ty tv):=by
 intro pins s σ H D I h
 refine wpAny_Assign_Subscript (thn (hv pins s σ H _ I h) fun r s1 ⟨v,H1,I1,rv,q1⟩=>thn (ho pins s1 σ H1 _ I1 q1) fun u s2 ⟨x,H2,I2,rx,q2⟩=>thn (hi pins s2 σ H2 _ I2 q2) fun iv s3 ⟨y,H3,I3,ry,a,H4,ex,g,q3⟩=>?_) hs
 subst ex
 obtain rfl:u=a0X a:=rx
 exact YS hu I3 g ry rv fun s4 I4=>⟨σ,H4,I4,q3⟩
end
theorem NA {P:Program}{w:World}{H:Hp}(h:Heap) (hb:sysModules < h.objs.size):ObjOk P w H (h.push { cls:=.type "dict", data:=.dict #[] }) h.objs.size (.dK []):=
 ⟨xT _,beq_eq_false_iff_ne.mpr (b1Q (zC hb)),[],.nil,Heap.DictOf.new h⟩
def bC:TE:=fun _ H Q=>∀p,H p=none->Q (.ref p) (upd H p (.dK []))
section
variable {X:Cx}{pos:Pos}
theorem NB:PE X (.Dict [] [] pos) bC:=fun pins s σ H Q I h=>
 wpAny_Dict_empty ⟨.ref s.heap.objs.size,_,I.laid (a:=s.heap.objs.size) (o:=.dK []) (t':=s.toks) (fun _ _ q=>zW _ q) (zR _) (NA s.heap I.big),rfl,h _ (I.hok.fresh (zR _))⟩
end
def RA:List (TE×TE)->St->Hp->(List (V×V)->Hp->Prop)->Prop
 | [],_,H,Q=>Q [] H
 | (tk,tv)::r,σ,H,Q=>tk σ H fun x H1=>tv σ H1 fun y H2=>RA r σ H2 fun ps H3=>Q ((x,y)::ps) H3
abbrev VV:List (V×V)->List (Value×Value)->Prop:=Paired fun p q=>RelV p.1 q.1/\RelV p.2 q.2
def PPs (X:Cx) (pos:Pos) (keys:List (Option Expr)) (values:List Expr) (trs:List (TE×TE)):Prop:=
 ∀(pins:List (Addr×Obj)) (s:Shared) (σ:St) (H:Hp) (Q:List (V×V)->Hp->Prop),Inv X pins σ H s->RA trs σ H Q ->
   wpAny (model X.prog X.w) X.A (evalPairs (pairTrees keys values X.env pos)) (fun vs s'=>∃ps H',Inv X pins σ H' s'/\VV ps vs/\Q ps H') X.xe s
theorem RB {X:Cx}{pos:Pos}:PPs X pos [] [] []:=fun pins s σ H Q I h=>pairTrees_nil_walk ⟨[],H,I,.nil,h⟩
theorem HI {X:Cx}{pos:Pos}{k v:Expr}{ks:List (Option Expr)}{vs:List Expr}{tk tv:TE}{trs:List (TE×TE)}(hk:PE X k tk) (hv:PE X v tv) (hr:PPs X pos ks vs trs) :
   PPs X pos (some k::ks) (v::vs) ((tk,tv)::trs):=fun pins s σ H Q I h=>
 pairTrees_cons_walk (thn (hk pins s σ H _ I h) fun u s1 ⟨x,H1,I1,rx,q1⟩=>thn (hv pins s1 σ H1 _ I1 q1) fun w2 s2 ⟨y,H2,I2,ry,q2⟩=>
   thn (hr pins s2 σ H2 _ I2 q2) fun ws s3 ⟨ps,H3,I3,rel,q3⟩=>⟨(x,y)::ps,H3,I3,.cons ⟨rx,ry⟩ rel,q3⟩)
def HJ (kvs more:List (Key×V)):List (Key×V):=more.foldl (fun acc kv=>CV acc kv.1 kv.2) kvs
theorem KV.merge:∀{more:List (Key×V)}{rs:List (Key×Value)}{kvs:List (Key×V)}{vs:List (Key×Value)},KV more rs->KV kvs vs->KV (HJ kvs more) (merged vs rs):=by
 intro more rs kvs vs r
 unfold KV at r
 induction r generalizing kvs vs with
 | nil=>intro q;exact q
 | @cons p q ps qs h t ih=>
   intro r0
   have e:KV (CV kvs p.1 p.2) (stored vs q.1 q.2):=by
     have:=r0.put p.1 h.2
     rw[← h.1];exact this
   exact ih e
theorem IV:∀(more kvs:List (Key×V)),(HJ kvs more).length<=kvs.length+more.length
 | [],kvs=>by show kvs.length<=kvs.length+0;omega
 | p::r,kvs=>by
   have h1:=IV r (CV kvs p.1 p.2)
   have h2:=EQ kvs p.1 p.2
   show(HJ (CV kvs p.1 p.2) r).length<=_
   rw[yR];omega
theorem ND {P:Program}{w:World}:∀{kvs:List (Key×V)}{ws:List (Value×Value)},VV (kvs.map fun kv=>(kV kv.1,kv.2)) ws->∃rs,Carries (AK P w) ws rs/\KV kvs rs
 | [],_,r=>by rw[a5Z] at r;cases r;exact⟨[],a8X,.nil⟩
 | p::kvs,_,r=>by
   rw[zI] at r
   cases r with
   | @cons a b as bs h t=>
     obtain⟨rs,c,q⟩:=ND (P:=P) (w:=w) t
     obtain⟨b1,b2⟩:=b
     exact⟨(p.1,b2)::rs,⟨LP h.1,rfl,c⟩,.cons ⟨rfl,h.2⟩ q⟩
def jU (trs:List (TE×TE)):TE:=fun σ H Q=>∀p,H p=none->RA trs σ (upd H p (.dK [])) fun ps H2=>H2 p=some (.dK [])/\∃kvs:List (Key×V),ps=kvs.map (fun kv=>(kV kv.1,kv.2))/\kvs.length<=15/\Q (.ref p) (upd H2 p (.dK (HJ [] kvs)))
theorem RC {X:Cx}{pos:Pos}{keys:List (Option Expr)}{values:List Expr}{trs:List (TE×TE)}(h:PPs X pos keys values trs) (hall:keys.all (·.isSome)=true) (hl:keys.length=values.length) (h0:keys≠[])
   (h15:keys.length<=15):PE X (.Dict keys values pos) (jU trs):=by
 intro pins s σ H Q I q
 have hn:=I.hok.fresh (zR s.heap.objs.size)
 have I1:=I.laid (a:=s.heap.objs.size) (o:=.dK []) (h':=s.heap.push { cls:=.type "dict", data:=.dict #[] }) (t':=s.toks) (fun _ _ q=>zW _ q) (zR _) (NA s.heap I.big)
 refine wpAny_Dict_walk (knd:=AK X.prog X.w) hall hl h0 h15 (thn (h pins _ σ _ _ I1 (q _ hn)) fun ws s2 ⟨ps,H2,I2,rel,e,kvs,ep,lk,q2⟩=>?_)
 subst ep
 obtain⟨rs,c,rk⟩:=ND (P:=X.prog) (w:=X.w) rel
 obtain⟨z,hd,vs0,r0,dd⟩:=aZ I2.hok e
 cases r0
 refine⟨rs,c,dd,fun h' dd' hs=>⟨.ref s.heap.objs.size,_,?_,rfl,q2⟩⟩
 have hz:(HJ [] kvs).length<=sizeLine:=by
   have h1:=IV kvs []
   rw[b4J] at h1
   rw[sizeLine_eq];omega
 have he:∃q,h'.get? s.heap.objs.size=some q:=let ⟨q,_,_,hq,_⟩:=dd';⟨q,hq⟩
 exact MV I2 (by rw[e];exact a8X) hs he (VS hz hd (rk.merge .nil) dd')
structure M1 (X:Cx) (o:Expr) (m:Str) (apos:Pos) (e:Expr) (cpos:Pos):Prop where
 base:attributeBase o m X.env (eval o X.env)=eval o X.env
 few:((backTo cpos (starEach [e] X.env)).all (fun x=>!x.1)&&(backToKw cpos (keywordEach [] X.env)).all (fun x=>x.1.isSome)
   && decide (([e]:List Expr).length+([]:List Keyword).length+(if ([]:List Keyword).isEmpty then 0 else 1) < 30))=true
 line:(apos.endLine==cpos.line)=true
 trees:backTo cpos (starEach [e] X.env)=[(false,eval e X.env)]
structure M2 (X:Cx) (o:Expr) (m:Str) (apos:Pos) (e f:Expr) (cpos:Pos):Prop where
 base:attributeBase o m X.env (eval o X.env)=eval o X.env
 few:((backTo cpos (starEach [e,f] X.env)).all (fun x=>!x.1)&&(backToKw cpos (keywordEach [] X.env)).all (fun x=>x.1.isSome)
   && decide (([e,f]:List Expr).length+([]:List Keyword).length+(if ([]:List Keyword).isEmpty then 0 else 1) < 30))=true
 line:(apos.endLine==cpos.line)=true
 trees:backTo cpos (starEach [e,f] X.env)=[(false,eval e X.env),(false,eval f X.env)]
def IsD (H:Hp) (a:Addr):Prop:=(∃kvs,Rd H a (.dK kvs))∨∃kvs,Rd H a (.dT kvs)
theorem bD {X:Cx}{pins:List (Addr×Obj)}{σ:St}{H:Hp}{s:Shared}{a:Addr}(I:Inv X pins σ H s) (d:IsD H a) :
   s.TypeIs (.ref a) "dict" /\ (∀b,a0X a = .ref b->∃ob,s.heap.get? b=some ob/\ob.dict=none)/\(a==sysModules)=false:=by
 rcases d with ⟨kvs,e⟩ | ⟨kvs,e⟩
 · obtain⟨_,hd,vs,_,dd⟩:=IU I.hok e
   refine⟨dd.typeIs,fun b q=>?_,hd⟩
   cases q
   obtain⟨ob,_,_,h1,h2,_⟩:=dd
   exact⟨ob,h1,h2.2.1⟩
 · obtain⟨_,hd,xs,_,dd⟩:=PZ I.hok e
   refine⟨dd.typeIs,fun b q=>?_,hd⟩
   cases q
   obtain⟨ob,_,_,h1,h2,_⟩:=dd
   exact⟨ob,h1,h2.2.1⟩
section
variable {X:Cx}{pins:List (Addr×Obj)}{σ:St}{H:Hp}{s:Shared}{a:Addr}{y d:V}{u r:Value}{o:Option V}{A:Around}{E:Value->Shared->Prop}
theorem lY {Q:Value->Shared->Prop}(hu:A.units+1 < cLine) (I:Inv X pins σ H s) (g:VR H a y o) (ry:RelV y u) (rd:RelV d r) (h:∀w' s',Inv X pins σ H s'->RelV (o.getD d) w'->Q w' s') :
   wpAny (model X.prog X.w) A (call (.builtin "dict.get") [.ref a,u,r]) Q E s:=by
 rcases g with ⟨kvs,k,e,ey,l⟩ | ⟨kvs,k,b,e,ey,eb,l⟩
 · subst ey
   obtain⟨z,hd,vs,rel,dd⟩:=IU I.hok e
   refine call_meetsIn a8W dd.typeIs b8X (PySem.F.args_dict_get_3 _ _ _) (meets_dict_get_default (AK X.prog X.w) a (LP ry) hd r) ⟨_,dd.mapOf,h _ _ (I.tok _) ?_⟩
   rw[l]
   exact(rel.val k).getD rd
 · subst ey
   cases (show u=a0X b from ry)
   obtain⟨z,hd,xs,rel,dd⟩:=PZ I.hok e
   refine call_meetsIn a8W dd.typeIs b8X (PySem.F.args_dict_get_3 _ _ _) (meetsH_dict_get_default (tupleKind (AK X.prog X.w)) a b hd r) ⟨tupleKind_room_in1 hu,k,xs,N9 I.hok eb,dd,h _ _ (I.tok _) ?_⟩
   rw[l]
   exact(rel.val k).getD rd
end
def bE (td ty tx:TE):TE:=fun σ H Q=>td σ H fun x H1=>∃a,x = .ref a/\IsD H1 a/\ty σ H1 fun y H2=>tx σ H2 fun z H3=>∃o,VR H3 a y o/\Q (o.getD z) H3
section
variable {X:Cx}{o e f:Expr}{apos cpos:Pos}{td ty tx:TE}
theorem bF (hu:X.A.units+1 < cLine) (ho:PE X o td) (he:PE X e ty) (hf:PE X f tx) (m:M2 X o "get" apos e f cpos):PE X (.Call (.Attribute o "get" apos) [e,f] [] cpos) (bE td ty tx):=by
 intro pins s σ H Q I h
 refine wpAny_Call_method m.base m.few m.line b7X a8W PySem.F.type_dict_get (thn (ho pins s σ H _ I h) fun u s1 ⟨x,H1,I1,rx,a,ex,d,q1⟩=>?_)
 subst ex
 obtain rfl:u=a0X a:=rx
 obtain⟨t1,t2,_⟩:=bD I1 d
 refine⟨t1,t2,?_⟩
 rw[m.trees]
 refine b2J rfl (Calls.evalArgs_plain (xP (thn (he pins s1 σ H1 _ I1 q1) fun iv s2 ⟨y,H2,I2,ry,q2⟩=>
   xP (thn (hf pins s2 σ H2 _ I2 q2) fun fv s3 ⟨z,H3,I3,rz,ov,g,q3⟩=>Calls.spliced_nil ?_))))
 exact lY hu I3 g ry rz fun w' s4 I4 rw'=>⟨_,H3,I4,rw',q3⟩
end
end L2
namespace Att
open PySem PySem.W PySem.Calls PyProof.Rows
theorem MF {P:Params}{h:Heap}:∀(ns:List Int) (vs:List Value),WellAll P h vs (ns.map WData.int)->IntsAre vs ns:=by
 intro ns
 induction ns with
 | nil=>
   intro vs w
   rw[a5Z] at w
   cases w
   exact .nil
 | cons n ns ih=>
   intro vs w
   rw[zI] at w
   cases w with
   | cons a b=>
     cases a
     exact .cons _ _ (ih _ b)
theorem script_of {l:OpenLaw}{n:Nat}(hn:l.most=some n) {P:Params}{h:Heap}{args:List WData}{vals:List Value}
   (hpre:l.row.toRowW.claim.pre args=true) (hwl:WellAll P h vals args) :
   ∃a vs ns,vals=[a0X a]/\args=[WData.list (ns.map WData.int)]/\h.get? a=some { cls:=.type "list", data:=.seq vs.toArray }/\IntsAre vs ns/\ns.length<=n:=by
 have hsh:WShape.hasAll [] args [.list .int]=true:=(pre_splitW hpre).1
 have hc:l.pre.holds [] { args:=args }=true:=(pre_splitW hpre).2
 obtain⟨d,r,rfl,h1,h2⟩:=hasAllW_cons hsh
 obtain rfl:=hasAllW_nil h2
 obtain⟨xs,rfl,h3⟩:=hasW_list h1
 obtain⟨ns,rfl⟩:=items_int h3
 have hlen:ns.length<=n:=by
   unfold OpenLaw.pre at hc
   have h4:(WTm.not (.lt (.lit (.int (n:Int))) (.len (.arg 0)))).holds [] { args:=[.list (ns.map .int)] }=true:=by
     have h4:=(holds_andW hc).1
     rw[hn] at h4
     exact h4
   have h5:=condW_of h4 (w_not (w_lt w_lit (w_len_list (w_arg rfl))))
   rw[zX] at h5
   refine Nat.le_of_not_lt fun q=>?_
   have q':(n:Int) < ((ns.length:Nat):Int):=by omega
   first
     | (rw[decide_eq_true q'] at h5;exact absurd h5 (by decide))
     | (simp at h5;omega)
 cases hwl with
 | cons w1 w2=>
   cases w2
   cases w1 with
   | list ho hall=>exact⟨_,_,ns,rfl,rfl,ho,MF ns _ hall,hlen⟩
theorem post_true (l:OpenLaw) (args:List WData):l.row.toRowW.claim.post args (.bool true) args=true:=
 postW_of (r:=l.row.toRowW) (X:=(true==true))
   (show WShape.has [] (.bool true) .bool=true by first | rfl | decide | simp[WShape.has,WShape.arms,WShape.armsAll])
   (show(WTm.eq .res (.lit (.bool true))).value [] { args:=args,res:=some (.bool true),after:=args }=some (.bool (true==true)) from w_eq_bool (w_res rfl) w_lit) rfl
end Att
namespace L2
open PySem PySem.Spec PyProof.Rows
theorem Q0:∀{vs:List Value}{ns:List Int},IntsAre vs ns->Vals (ns.map V.int) vs
 | _,_,.nil=>.nil
 | _,_,.cons n t h=>.cons ⟨t,rfl⟩ (Q0 h)
def lZ (H:Hp):Prop:=∀b,H b=none∨∃o xs,H b=some (.frz o (.lst xs))
theorem bG {P:Program}{w:World}{K:Frg}{mg mb:Str->Option Value}{CX:CXT}{k:Nat}{fa a:Addr}{fd:FuncData}{x:Str}{sp:Sp}{s₁:Shared}{vs:List Value}{ns:List Int}
   (KX:K.In s₁.heap) (hns:s₁.heap.Ns mainGlobals mg) (hb:s₁.heap.Ns builtinsNs mb) (hbb:∀x:Str,x ≠ "__name__" -> mb x=bootBuiltins x) (hlim:s₁.heap.NoLimit) (hg:s₁.gens=#[])
   (ha:s₁.heap.get? a=some { cls:=.type "list", data:=.seq vs.toArray }) (hi:IntsAre vs ns) (hl:ns.length<=sizeLine) (hr:Room k callerA)
   (F:∀base:Heap,K.In base->base.Ns mainGlobals mg->FnOk P w K mg base CX k fa fd [x] sp) (hbind:∀(s:Shared) (u:Value),BindsTo s fd ⟨[u],[]⟩ [(x,u)])
   (hsp:∀H:Hp,lZ H->SqL K H a (ns.map V.int)->sp [.ref a] H (fun v _=>v = .bl true) fun _ _ _=>False)
   (hCX:∀H e s',CX [] H s₁ (fun _ _ _=>False) e s'->False) :
   codeAny (model P w) callerA (.call (.ref fa) ⟨[.ref a],[]⟩) (fun r s'=>r = .ok (.ret (.bool true))/\OldK s₁.heap s'.heap/\s'.os=s₁.os/\AllBare s'.gens) s₁:=by
 have rv:=Q0 hi
 have lenV:=hi.length
 have core:∀H:Hp,lZ H->SqL K H a (ns.map V.int)->HOk P w H s₁.heap->(∀b,H b≠none->b=a)->(H a≠none->K.lookup a=none) ->
     codeAny (model P w) callerA (.call (.ref fa) ⟨[.ref a],[]⟩) (fun r s'=>r = .ok (.ret (.bool true))/\OldK s₁.heap s'.heap/\s'.os=s₁.os/\AllBare s'.gens) s₁:=by
   intro H hO hS hok hA hK
   have base_of:∀{b:Addr}{o:Obj},s₁.heap.get? b=some o->H b=none->(QT s₁.heap H).get? b=some o:=fun e n=>aK e n
   have noA:∀{b:Addr}{o:Obj}{es:Array DictEntry}{ep:Nat},s₁.heap.get? b=some o->o.data = .dict es ep->H b=none:=fun {b o es ep} e d=>by
     cases q:H b with
     | none=>rfl
     | some u=>
       have e':b=a:=hA b (by rw[q];simp)
       subst e'
       rw[ha] at e;cases e
       have d':Data.seq vs.toArray _=Data.dict es ep:=d
       cases d'
   have nsK:∀{b:Addr}{m:Str->Option Value},s₁.heap.Ns b m->(QT s₁.heap H).Ns b m:=fun {b m} ⟨o,es,ep,e,d,r⟩=>⟨o,es,ep,base_of e (noA e d),d,r⟩
   have hKb:K.In (QT s₁.heap H):=fun b o e=>base_of (KX b o e) (by
     cases q:H b with
     | none=>rfl
     | some u=>
       have e':b=a:=hA b (by rw[q];simp)
       subst e'
       rw[hK (by rw[q];simp)] at e;cases e)
   have hM:Mod K mg (QT s₁.heap H):=⟨hKb,nsK hns,⟨mb,nsK hb,hbb⟩,let ⟨mc,h1,h2⟩:=hlim;⟨mc,nsK h1,h2⟩⟩
   have e0:Env0 P w K mg (QT s₁.heap H) callerA [] s₁ H:=⟨rfl,hM,fun b o e=>fL e,Nat.le_of_eq (YE _ _),trivial,fun b hb=>absurd (show b∈([]:List Addr) from hb) (by simp),hok,.of_eq hg⟩
   refine codeAny_mono ((F _ hKb (nsK hns)).run callerA [] s₁ H ⟨[.ref a],[]⟩ [.ref a] [.ref a] _ _ hr e0 (hbind s₁ (.ref a)) (.cons rfl .nil) (hsp H hO hS)) fun r s' h=>?_
   cases r with
   | error e=>exact(hCX H e s' h).elim
   | ok fl=>
     cases fl with
     | next=>exact b1K h
     | brk=>exact b1K h
     | cont=>exact b1K h
     | ret u=>
       obtain⟨v,H',os,bare,un,hok',r',q⟩:=h
       have q':v = .bl true:=q
       subst q'
       obtain rfl:u=Value.bool true:=r'
       refine⟨rfl,OldK.of_keep fun b o e=>?_,os,bare⟩
       cases q:H b with
       | none=>exact un.keep b o e q (by intro z;exact absurd (show b∈([]:List Addr) from z) (by simp)) (by simp)
       | some u=>
         rcases hO b with z | ⟨ob,xs,z⟩
         · rw[q] at z;cases z
         · have z2:=un.frzs b ob _ z
           obtain⟨e1,_⟩:=hok b _ z
           obtain⟨e2,_⟩:=hok' b _ z2
           rw[e] at e1;cases e1
           exact e2
 cases hk:K.lookup a with
 | some o=>
   have e:=KX a o hk
   rw[ha] at e
   cases e
   refine core (fun _=>none) (fun _=>.inl rfl) (.inr ⟨_,vs.toArray,_,hk,rfl,rfl,rfl,by rw[zJ,lenV];exact hl,by simpa using rv⟩) (fun b u z=>by have z':(none:Option HO)=some u:=z;cases z') (fun b z=>absurd rfl z) fun z=>absurd rfl z
 | none=>
   refine core (fun b=>if b=a then some (.frz { cls:=.type "list", data:=.seq vs.toArray } (.lst (ns.map V.int))) else none) (fun b=>?_) (.inl (.inr ⟨{ cls:=.type "list", data:=.seq vs.toArray },if_pos rfl⟩)) (fun b u z=>?_) (fun b z=>?_) fun _=>hk
   · by_cases hb:b=a
     · exact .inr ⟨_,_,if_pos hb⟩
     · exact .inl (if_neg hb)
   · by_cases hb:b=a
     · have z':=(if_pos hb).symm.trans z
       cases z'
       subst hb
       exact⟨ha,by rw[zX];exact hl,vs,_,rv,ha⟩
     · have z':=(if_neg hb).symm.trans z
       cases z'
   · by_cases hb:b=a
     · exact hb
     · exact absurd (if_neg hb) z
def E1 (s:Stmt):Arguments:=match s with
 | .FunctionDef _ a _ _ _ _ _ _ _ _=>a
 | _=>{ posonlyargs:=[],args:=[],vararg:=none,kwonlyargs:=[],kw_defaults:=[],kwarg:=none,defaults:=[] }
def CC (s:Stmt):List Stmt:=match s with
 | .FunctionDef _ _ b _ _ _ _ _ _ _=>b
 | _=>[]
def AA (s:Stmt):Scope:=match s with
 | .FunctionDef _ _ _ _ _ _ sc _ _ _=>sc
 | _=>{ kind:=.function,names:=[],isGenerator:=false,isCoroutine:=false }
abbrev CX0:CXT:=fun _ _ _ _ _ _=>False
abbrev E0:XK:=fun _ _ _=>False
theorem pA {X:Cx}:VM CX0 X E0:=fun _ _ _ _ _ _ _ h=>h.elim
structure Fun (K:Frg) (x qual:Str) (st:Stmt) (f:Addr) (fd:FuncData):Prop where
 ex:∃(oc:Value) (od:Option Addr) (kV doc pm:Value) (an:Option Addr) (cdv ct:Value) (osl:Array (Option Value)),
   fd=a6V x qual (E1 st) (CC st) (AA st) .none kV doc pm an cdv ct/\K.lookup f=some ⟨oc,od,.func fd,osl⟩/\b4W K cdv qual=true
 kp:b0Q K (.ref f)=true
section
variable {P:Program}{w:World}{K:Frg}{mg:Str->Option Value}{base:Heap}
theorem Fun.ok {x qual:Str}{st:Stmt}{f:Addr}{fd:FuncData}{N ps:List Str}{k:Nat}{sp:Sp}(F:Fun K x qual st f fd) (S:FnScope N ps (AA st)) (len:∀vs H Q E,sp vs H Q E->vs.length=ps.length)
   (hbody:∀(cdv:Value) (A:Around) (outer:List Env) (s:Shared) (H:Hp) (vs:List V) (Q:VK) (E:XK),Room k (A.deeper (envOfC qual (AA st) s.heap.objs.size f cdv))->sp vs H Q E ->
     ∃t,PSs (VN CX0 P w K mg base N qual (AA st) f cdv A outer s H E).nox (CC st) t/\t { nx:=fun _ H'=>Q .non H',rt:=Q } (start N vs) H):FnOk P w K mg base CX0 (k+1) f fd ps sp:=by
 obtain⟨oc,od,kV,doc,pm,an,cdv,ct,osl,rfl,lk,hcd⟩:=F.ex
 refine oX lk hcd S len fun A outer s H vs Q E hr hsp=>?_
 obtain⟨t,h,q⟩:=hbody cdv A outer s H vs Q E hr hsp
 exact⟨t,h.nox,q⟩
theorem Fun.binds {x qual:Str}{st:Stmt}{f:Addr}{fd:FuncData}{ps:List Str}(F:Fun K x qual st f fd)
   (h:∀(kV doc pm:Value) (an:Option Addr) (cdv ct:Value) (us:List Value),us.length=ps.length->bindArgs (a6V x qual (E1 st) (CC st) (AA st) .none kV doc pm an cdv ct) ⟨us,[]⟩=pure (ps.zip us)):Binds K fd ps []:=by
 obtain⟨oc,od,kV,doc,pm,an,cdv,ct,osl,rfl,lk,hcd⟩:=F.ex
 exact .all (h kV doc pm an cdv ct)
theorem m3 {x qual:Str}{st:Stmt}{f:Addr}{oc:Value}{od an:Option Addr}{osl:Array (Option Value)}{kV doc pm cdv ct:Value}(l:K.lookup f=some ⟨oc,od,.func (a6V x qual (E1 st) (CC st) (AA st) .none kV doc pm an cdv ct),osl⟩)
   (c:b4W K cdv qual=true) (k:b0Q K (.ref f)=true):Fun K x qual st f (a6V x qual (E1 st) (CC st) (AA st) .none kV doc pm an cdv ct):=⟨⟨oc,od,kV,doc,pm,an,cdv,ct,osl,rfl,l,c⟩,k⟩
end
section
variable {X:Cx}
theorem pv (i:Nat) {x:Str}{pos:Pos}(hN:X.N[i]?=some x:=by rfl) (hv:Vis X.env.scope x:=by first | exact Or.inl rfl | exact Or.inr (Or.inl rfl) | exact Or.inr (Or.inr rfl)) (hd:(x==("__debug__":Str))=false:=by decide)
   (hcd:(x==("__classdict__":Str))=false:=by decide):PE X (.Name x pos) (fM i):=aL hN hv hd hcd
end
theorem bH {A B:Prop}(h:B):if false=true then A else B:=by
 rw[if_neg nft]
 exact h
theorem YT {A B:Prop}(h:A):if true=true then A else B:=by
 rw[if_pos rfl]
 exact h
theorem m4 {c A B:Prop}[Decidable c] (h1:c->A) (h2:¬c->B):if c then A else B:=by
 by_cases h:c
 · rw[if_pos h]
   exact h1 h
 · rw[if_neg h]
   exact h2 h
end L2
namespace L2
open PySem PySem.Spec PyProof.Rows
def KZ (cells:List (Str×Addr)):List (Str×NameKind)->List (Str×Addr)->List (Str×Addr)
 | [],cs=>cs
 | (n,k)::r,cs=>KZ cells r (if k==.free then (match cells.lookup n with | some c=>(n,c)::cs | none=>cs) else cs)
theorem RD (env:Env):∀(names:List (Str×NameKind)) (cs:List (Str×Addr)),(∀y∈names,y.2 = .free->∃c,env.cells.lookup y.1=some c) ->
   (forIn (m:=Sem) names cs fun x r=>do
     let (name,kind):=x
     if (kind==.free)=true then do let c ← cellOf env name;pure (b1Z ((name,c)::r)) else pure (b1Z r))=pure (KZ env.cells names cs)
 | [],cs,_=>rfl
 | (n,k)::r,cs,h=>by
   have hr:∀y∈r,y.2 = .free->∃c,env.cells.lookup y.1=some c:=fun y hy=>h y (yV _ hy)
   rw[List.forIn_cons]
   by_cases hk:(k==a6J)=true
   · obtain⟨c,hc⟩:=h (n,k) a2V (by simpa using hk)
     have hc':env.cells.lookup n=some c:=hc
     simp only[hk,if_true,cellOf,hc',KZ]
     exact RD env r _ hr
   · simp only[hk,if_false,KZ]
     exact RD env r _ hr
theorem gE {scope:Scope}{env:Env}(h:∀y∈scope.names,y.2 = .free->∃c,env.cells.lookup y.1=some c):closureFor scope env=pure (KZ env.cells scope.names []):=by
 have e:=RD env scope.names [] h
 have e2:closureFor scope env=((forIn (m:=Sem) scope.names ([]:List (Str×Addr)) fun x r=>do
     let (name,kind):=x
     if (kind==.free)=true then do let c ← cellOf env name;pure (b1Z ((name,c)::r)) else pure (b1Z r)) >>= fun r=>pure r):=rfl
 rw[e2,e]
 rfl
theorem TD {cells:List (Str×Addr)}:∀{names:List (Str×NameKind)}{cs:List (Str×Addr)},(∀p∈cs,cells.lookup p.1=some p.2)->∀p∈KZ cells names cs,cells.lookup p.1=some p.2
 | [],_,h=>h
 | (n,k)::r,cs,h=>by
   refine TD (names:=r) ?_
   split
   · cases e:cells.lookup n with
     | none=>exact h
     | some c=>
       intro p hp
       rcases yX.mp hp with rfl | hp
       · exact e
       · exact h p hp
   · exact h
theorem Q1 {cells:List (Str×Addr)}:∀{names:List (Str×NameKind)}{cs:List (Str×Addr)}{p:Str×Addr},p∈cs->p∈KZ cells names cs
 | [],_,_,h=>h
 | (n,k)::r,cs,p,h=>by
   refine Q1 (names:=r) ?_
   split
   · cases e:cells.lookup n with
     | none=>exact h
     | some c=>exact yV _ h
   · exact h
theorem TF {cells:List (Str×Addr)}{x:Str}{c:Addr}(hc:cells.lookup x=some c):∀{names:List (Str×NameKind)}{cs:List (Str×Addr)},(x,a6J)∈names->(x,c)∈KZ cells names cs
 | [],_,h=>absurd h (by simp)
 | (n,k)::r,cs,h=>by
   rcases yX.mp h with e | h
   · cases e
     refine Q1 (names:=r) ?_
     simp[hc]
   · exact TF hc (names:=r) h
theorem NE {α:Type}:∀{l:List (Str×α)}{x:Str}{c:α},(x,c)∈l->∃c',l.lookup x=some c'
 | [],_,_,h=>absurd h (by simp)
 | (n,k)::r,x,c,h=>by
   rw[a2K]
   cases e:x==n with
   | true=>exact⟨k,rfl⟩
   | false=>
     rcases yX.mp h with e' | h
     · cases e';simp at e
     · exact NE h
theorem BH {cells:List (Str×Addr)}{names:List (Str×NameKind)}{x:Str}{c:Addr}(h:(KZ cells names []).lookup x=some c):cells.lookup x=some c:=
 TD (names:=names) (cs:=[]) (by simp) (x,c) (a4V h)
structure CSc (X:Cx) (scope:Scope) (NC:List Str) (fr:List (Option Nat)):Prop where
 kind:scope.kind = .function
 nocell:∀y∈scope.names,y.2≠.cell
 names:∀y∈scope.names,y.2 = .local->scope.names.lookup y.1=some .local
 free:∀y∈scope.names,y.2 = .free->X.env.kindOf y.1=some .cell∨X.env.kindOf y.1=some .free
 len:fr.length=NC.length
 slot:∀(i j:Nat) (x:Str),NC[i]?=some x->fr[i]?=some (some j)->X.N[j]?=some x/\scope.names.lookup x=some .free/\Vis X.env.scope x/\X.env.kindOf x≠some .local
def capt (fr:List (Option Nat)) (σ:St):St:=fr.map fun o=>o.bind fun j=>(σ[j]?).join
def AO (X:Cx) (scope:Scope) (NC:List Str) (C:Addr) (s:Shared) (H:Hp) (ex:List Addr) (pn:List (Addr×Obj)):Cx where
 prog:=X.prog
 w:=X.w
 K:=X.K
 mg:=X.mg
 base:=X.base
 A:=X.A
 N:=NC
 s₀:=s
 H₀:=H
 env:=compEnvC scope (KZ X.env.cells scope.names []) C X.env
 outer:=X.stack
 stack:=X.stack
 ex:=ex
 fn:=fun _=>false
 calm:=X.calm
 pn:=pn
 xe:=fun _ _=>False
theorem IW {scope:Scope}{env:Env}{x:Str}:∀{names:List (Str×NameKind)},
   ((names.map fun(n,k)=>if (k==a6J&&env.scope.kind==.function&&env.kindOf n==some .cell) then (n,NameKind.cell) else (n,k)).lookup x=some .cell ∨
    (names.map fun(n,k)=>if (k==a6J&&env.scope.kind==.function&&env.kindOf n==some .cell) then (n,NameKind.cell) else (n,k)).lookup x=some .free) ->
   (∀y∈names,y.2≠.cell)->(x,a6J)∈names
 | [],h,_=>by simp at h
 | (n,k)::r,h,hn=>by
   have ih:=@IW scope env x r
   have hn':∀y∈r,y.2≠.cell:=fun y hy=>hn y (yV _ hy)
   have hk:=hn (n,k) a2V
   simp only[zI] at h
   by_cases hc:(k==a6J&&env.scope.kind==.function&&env.kindOf n==some .cell)=true
   · simp only[hc,if_true,a2K] at h
     cases hx:x==n with
     | true=>
       have e:x=n:=by simpa using hx
       have e2:k = .free:=by simp at hc;exact hc.1.1
       subst e e2
       exact a2V
     | false=>
       simp only[hx] at h
       exact yV _ (ih h hn')
   · simp only[hc,a2K] at h
     cases hx:x==n with
     | true=>
       have e:x=n:=by simpa using hx
       subst e
       simp[a2K] at h
       rcases h with h | h
       · exact absurd h hk
       · subst h;exact a2V
     | false=>
       simp[a2K,hx] at h
       exact yV _ (ih (by simpa using h) hn')
section
variable {X:Cx}{scope:Scope}{NC:List Str}{fr:List (Option Nat)}{pins:List (Addr×Obj)}{σ:St}{H:Hp}{s:Shared}
theorem CSc.has (S:CSc X scope NC fr) (ok:X.Ok):∀y∈scope.names,y.2 = .free->∃c,X.env.cells.lookup y.1=some c:=fun y hy hf=>ok.has y.1 (S.free y hy hf)
theorem CSc.cells (S:CSc X scope NC fr) (ok:X.Ok) {x:Str}(h:(x,a6J)∈scope.names):∃c,(KZ X.env.cells scope.names []).lookup x=some c/\X.env.cells.lookup x=some c:=by
 obtain⟨c,hc⟩:=S.has ok _ h rfl
 have hc':X.env.cells.lookup x=some c:=hc
 obtain⟨c',h'⟩:=NE (TF hc' h (cs:=[]))
 have:=BH h'
 rw[hc'] at this;cases this
 exact⟨_,h',hc'⟩
theorem RE {env:Env}{x:Str}{scope:Scope}(hn:∀y∈scope.names,y.2 = .local->scope.names.lookup y.1=some .local) (h:(x,a6J)∈scope.names) (hl:scope.names.lookup x≠some .free->False):(relabel scope env).names.lookup x=some .cell∨(relabel scope env).names.lookup x=some .free:=by
 have hf:scope.names.lookup x=some .free:=by
   cases e:scope.names.lookup x with
   | none=>exact(hl (by rw[e];intro z;cases z)).elim
   | some k=>
     cases k <;> first
       | rfl
       | exact(hl (by rw[e];intro z;cases z)).elim
 have go:∀(names:List (Str×NameKind)),names.lookup x=some .free ->
   ((names.map fun(n,k)=>if (k==a6J&&env.scope.kind==.function&&env.kindOf n==some .cell) then (n,NameKind.cell) else (n,k)).lookup x=some .cell ∨
    (names.map fun(n,k)=>if (k==a6J&&env.scope.kind==.function&&env.kindOf n==some .cell) then (n,NameKind.cell) else (n,k)).lookup x=some .free):=by
   intro names
   induction names with
   | nil=>intro h;simp at h
   | cons y r ih=>
     obtain⟨n,k⟩:=y
     intro h
     rw[a2K] at h
     simp only[zI]
     cases hx:x==n with
     | true=>
       simp only[hx] at h
       cases h
       split
       · left;simp[a2K,hx]
       · right;simp[a2K,hx]
     | false=>
       simp only[hx] at h
       have:=ih h
       split
       · simpa [a2K,hx] using this
       · simpa [a2K,hx] using this
 exact go scope.names hf
end
end L2
namespace L2
open PySem PySem.Spec PyProof.Rows
theorem AI {α:Type}{t:Sem α}{Q:α->Shared->Prop}{M:Model}{A:Around}{E:Value->Shared->Prop}{s:Shared}(h:wpAny M A t Q (fun _ _=>False) s):wpAny M A t Q E s:=
 wpAny_mono h (fun _ _ q=>q) fun _ _ f=>f.elim
def JK (ifs:List Expr) (env:Env):Sem Bool:=forIn ifs true fun c r=>if r=true then do let ok ← isTrue c env (eval c env);pure (b1Z ok) else pure (b1Z r)
def RF (prog:Program) (w:World) (A:Around) (cE target:Expr) (ifs:List Expr) (tl:Env->Addr->(Shared->Prop)->Shared->Prop):Prop:=
 ∀(it D:Addr) (env:Env) (R:Result->Shared->Prop) (I:Nat->Shared->Prop),(∀n s,I n s->wpAny (model prog w) A (pyNext (.ref it)) (fun r s₁=>match r with
     | none=>R (.ok .next) s₁
     | some v=>wpAny (model prog w) A (letOwnedTupleGo target (.ref it) v) (fun _ s₀=>wpAny (model prog w) A (assign target env v) (fun _ s₂=>
         wpAny (model prog w) A (JK ifs env) (fun ok s₃=>if ok=true then tl env D (fun s'=>∃m,m < n/\I m s') s₃ else ∃m,m < n/\I m s₃) (fun _ _=>False) s₂) (fun _ _=>False) s₀) (fun _ _=>False) s₁) (fun _ _=>False) s) ->
   ∀n s,I n s->codeAny (model prog w) A (.compLoop cE 0 (.ref it) (.ref D) env) R s
def tlL (prog:Program) (w:World) (A:Around) (elt:Expr):Env->Addr->(Shared->Prop)->Shared->Prop:=fun env D P s=>wpAny (model prog w) A (eval elt env) (fun x s₄=>wpAny (model prog w) A (call (.builtin "list.append") [.ref D,x]) (fun _ s₅=>P s₅) (fun _ _=>False) s₄) (fun _ _=>False) s
theorem gF {prog:Program}{w:World}{A:Around}{elt target iter:Expr}{ifs:List Expr}{scope:Scope}{pos:Pos}:RF prog w A (.ListComp elt [⟨target,iter,ifs,0⟩] scope pos) target ifs (tlL prog w A elt):=by
 intro it D env R I turn n s h
 refine codeAny_loop rfl I (fun n s hI=>?_) n h
 show wpAny _ A ((compTurn (.ListComp elt [⟨target,iter,ifs,0⟩] scope pos) 0 (.ref it) (.ref D) env).onRaise (fun x=>do noteFrame x env;theTreesLotGoes x)) _ _ s
 refine wpAny_noted ?_
 rw[compTurn_list]
 refine zZ (wpAny_standAt (zZ (wpAny_mono (AI (turn n s hI)) (fun r s₁ h₁=>?_) fun _ _ h'=>h')))
 cases r with
 | none=>exact zY h₁
 | some v=>
   refine zZ (wpAny_mono (AI h₁) (fun _ s₀ h₀=>?_) fun _ _ h'=>h')
   refine zZ (wpAny_mono (AI h₀) (fun _ s₂ h₂=>zZ (wpAny_mono (AI h₂) (fun ok s₃ h₃=>?_) fun _ _ h'=>h')) fun _ _ h'=>h')
   cases ok with
   | false=>exact zY ⟨rfl,h₃⟩
   | true=>
     exact zZ (zZ (wpAny_mono (AI h₃) (fun x s₄ h₄=>zZ (wpAny_mono (AI h₄) (fun _ s₅ h₅=>zY (zY ⟨rfl,h₅⟩)) fun _ _ h'=>h')) fun _ _ h'=>h'))
def PTs (X:Cx) (ifs:List Expr) (t:TT):Prop:=
 ∀(pins:List (Addr×Obj)) (s:Shared) (σ:St) (H:Hp) (Q:Bool->Hp->Prop),Inv X pins σ H s->t σ H Q->wpAny (model X.prog X.w) X.A (JK ifs X.env) (TP X pins σ Q) X.xe s
def gG:TT:=fun _ H Q=>Q true H
theorem X9 {X:Cx}:PTs X [] gG:=fun _ _ _ H _ I h=>wpAny_tests_nil ⟨H,I,h⟩
theorem gH {X:Cx}{c:Expr}{t:TT}(h:PT X c t):PTs X [c] t:=fun pins s σ H Q I q=>wpAny_tests_one (h pins s σ H Q I q)
def LQ (fr:List (Option Nat)) (wi:TI) (g:TG) (tt:TT) (te:TE):TE:=fun σ H Q=>wi σ H fun J H1=>∀D,H1 D=none->∃W:Nat->Nat->List V->Hp->Prop,(∃m,W 0 m [] (upd H1 D (.lst []))) /\
 ∀i m ys H2,W i m ys H2->H2 D=some (.lst ys)/\((J.stop i H2/\Q (.ref D) H2)∨(J.go i H2/\∀x H3,J.yld i H2 x H3->g x (capt fr σ) H3 fun σ2 H4=>
   (∀(i:Nat) v,(capt fr σ)[i]?=some (some v)->σ2[i]?=some (some v))/\tt σ2 H4 fun c H5=>if c=true then te σ2 H5 fun y H6=>∃ys',H6 D=some (.lst ys')/\ys'.length < sizeLine/\∃m',m' < m/\W (i+1) m' (ys'++[y]) (upd H6 D (.lst (ys'++[y])))
     else ∃ys' m',m' < m/\W (i+1) m' ys' H5))
section
variable {X:Cx}{scope:Scope}{NC:List Str}{fr:List (Option Nat)}{pins:List (Addr×Obj)}{σ:St}{H:Hp}{s:Shared}
theorem VU {fp:List Addr}{h1:Heap}{m:Str->Option Value}{tk:Nat}(S:CSc X scope NC fr) (I:Inv X pins σ H s) (hfp:∀b∈fp,JW X pins H b) (hlt:∀b∈fp,b < s.heap.objs.size)
   (hns:h1.Ns s.heap.objs.size m) (hk:∀b o,s.heap.get? b=some o->h1.get? b=some o) :
   Inv (AO X scope NC s.heap.objs.size s H fp (X.pn++pins)) [] (capt fr σ) H { s with heap:=h1,toks:=tk }:=by
 have I4:Inv X pins σ H { s with heap:=h1,toks:=tk }:=I.kept hk
 have nstk:∀b,b≠X.env.locals->b∉X.fs->b∉frs X.stack:=fun b h1 h2 z=>(yX.mp (I.stkSub b z)).elim h1 h2
 refine⟨⟨I.ok.mod,S.kind,I.ok.glob,I.ok.blt,zR _,fun x y c h1 h2=>I.ok.inj x y c (BH h1) (BH h2),fun x hx=>?_,fun x c h=>absurd h (by intro z;cases z),I.ok.hd,I.ok.frames,.inl rfl,fun b hb=>?_,I.bs,zN I.ok.bsz I.sz,fun b o e hb=>?_,fun b hb=>?_,I.stack,I.stkFree⟩,
   rfl,I.bare,Un.kept hk,⟨m,hns,fun i x v e1 e2 e3=>?_⟩,fun x c e=>I4.cell x c (BH e),I.hok.fresh (zR _),fun x c e=>I4.freeC x c (BH e),fun p hp=>?_,I4.hok,?_⟩
 · have hx':=IW (scope:=scope) (env:=X.env) (x:=x) (names:=scope.names) hx S.nocell
   obtain⟨c,h,_⟩:=S.cells I.ok hx'
   exact⟨c,h⟩
 · exact⟨zC (hlt b hb),fun x c e=>(hfp b hb).2.2.2.2.1 x c (BH e)⟩
 · rcases (hfp b hb).2.2.2.1 with z | z
   · exact I.ok.noex b o e z
   · exact absurd (zP (zM e) (zN I.ok.bsz z)) (yF _)
 · exact nstk b (hfp b hb).2.1 (hfp b hb).2.2.1
 · have e2':∃j,fr[i]?=some (some j)/\σ[j]?=some (some v):=by
     unfold capt at e2
     rw[zF] at e2
     cases hf:fr[i]? with
     | none=>rw[hf] at e2;cases e2
     | some o=>
       rw[hf] at e2
       cases o with
       | none=>cases e2
       | some j=>
         refine⟨j,rfl,?_⟩
         have e2:((σ[j]?).join)=some v:=Option.some.inj e2
         cases hs:σ[j]? with
         | none=>rw[hs] at e2;cases e2
         | some q=>rw[hs] at e2;cases q with
           | none=>cases e2
           | some v'=>cases e2;rfl
   obtain⟨j,f1,f2⟩:=e2'
   obtain⟨g1,g2,g3,g4⟩:=S.slot i j x e1 f1
   obtain⟨m',hn',hl'⟩:=I4.loc
   obtain⟨u,r,l⟩:=hl' j x v g1 f2 g3
   rcases l with ⟨k,_⟩ | ⟨k,c,hc,hcell⟩
   · exact absurd k g4
   · obtain⟨c',q1,q2⟩:=S.cells I.ok (a4V g2)
     rw[hc] at q2;cases q2
     exact⟨u,r,.inr ⟨RE S.names (a4V g2) (fun z=>z g2),c,q1,hcell⟩⟩
 · have hp':p∈X.pn++pins:=by rw[b2Q] at hp;exact hp
   obtain⟨p1,p2,p3,p4,p5⟩:=I4.pin p hp'
   exact⟨p1,p2,zC (zM (I.pin p hp').1),nstk _ p3 p4,p5⟩
 · unfold capt
   rw[zX]
   exact S.len
def jV (fr:List (Option Nat)) (wi:TI) (g:TG) (tt:TT) {Y:Type}(y0:Y) (at_:Y->HO) (el:Addr->Nat->(Nat->Y->Hp->Prop)->St->Hp->Prop):TE:=fun σ H Q=>wi σ H fun J H1=>∀D,H1 D=none->∃W:Nat->Nat->Y->Hp->Prop,(∃m,W 0 m y0 (upd H1 D (at_ y0))) /\
 ∀i m ys H2,W i m ys H2->H2 D=some (at_ ys)/\((J.stop i H2/\Q (.ref D) H2)∨(J.go i H2/\∀x H3,J.yld i H2 x H3->g x (capt fr σ) H3 fun σ2 H4=>
   (∀(i:Nat) v,(capt fr σ)[i]?=some (some v)->σ2[i]?=some (some v))/\tt σ2 H4 fun c H5=>if c=true then el D m (W (i+1)) σ2 H5 else ∃ys' m',m' < m/\W (i+1) m' ys' H5))
def m5 (X:Cx) (pins:List (Addr×Obj)) (σ:St) (use:Option (Value->Sem Unit)) (Q:VK) (QQ:Value->Shared->Prop):Prop:=
 ∀(D C:Addr) (H':Hp) (s':Shared) (m:Str->Option Value) (oC:Obj),Inv X (pins++[(C,oC)]) σ H' s'->s'.heap.Ns C m->Q (.ref D) H' ->
     (∀(pins':List (Addr×Obj)) (σ2:St) (H2:Hp) (s2:Shared) (h2:Heap),Inv X (pins++[(C,oC)]) σ2 H2 s2->Heap.SameBut C s2.heap h2->Inv X pins σ2 H2 { s2 with heap:=h2 }) ->
     s'.heap.get? C=some oC ->
     match use with
     | none=>∀h',Heap.SameBut C s'.heap h'->QQ (.ref D) { s' with heap:=h' }
     | some u=>wpAny (model X.prog X.w) X.A (u (.ref D)) (fun _ s''=>∃m,s''.heap.Ns C m/\∀h',Heap.SameBut C s''.heap h'->QQ .none { s'' with heap:=h' }) X.xe s'
theorem L0 {cE iter tg:Expr}{ifs:List Expr}{cpos:Pos}{wi:TI}{g:TG}{tt:TT}{Y:Type}{y0:Y}{at_:Y->HO}{Ty:String}{dt:Data}{mk:Sem Value}{tl:Env->Addr->(Shared->Prop)->Shared->Prop}{el:Addr->Nat->(Nat->Y->Hp->Prop)->St->Hp->Prop}{use:Option (Value->Sem Unit)}{Q:VK}{QQ:Value->Shared->Prop}
   {gs:List Comprehension}(hcl:clausesOf cE=⟨tg,iter,ifs,0⟩::gs) (hmk:mk=newObj (.type Ty) dt none) (hsz:sizeOk dt)
   (hob:∀(H:Hp) (h:Heap),sysModules < h.objs.size->ObjOk X.prog X.w H (h.push { cls:=.type Ty,dict:=none,data:=dt }) h.objs.size (at_ y0)) (hgo:RF X.prog X.w X.A cE tg ifs tl)
   (hst:∀{it acc:Value}{env:Env}{R:Result->Shared->Prop}{s:Shared},codeAny (model X.prog X.w) X.A (.compLoop cE 0 it acc env) R s->wpAny (model X.prog X.w) X.A (pyIter it) (fun it' s'=>codeAny (model X.prog X.w) X.A (.compLoop cE 0 it' acc env) R s') (notedBy (model X.prog X.w) X.A env fun x s'=>R (.error x) s') s->codeAny (model X.prog X.w) X.A (.compStart cE 0 it acc env) R s)
   (hc:X.calm=true) (S:CSc X scope NC fr) (hi:PI X tg iter wi)
   (hb:∀(C:Addr) (s:Shared) (H:Hp) (ex:List Addr) (pn:List (Addr×Obj)),PG (AO X scope NC C s H ex pn) tg g/\PTs (AO X scope NC C s H ex pn) ifs tt/\∀(pn':List (Addr×Obj)) (s':Shared) (σ:St) (H':Hp) (D:Addr) (n:Nat) (W:Nat->Y->Hp->Prop) (P:Shared->Prop),Inv (AO X scope NC C s H ex pn) pn' σ H' s'->el D n W σ H'->(∀m y H2 s2,m < n->W m y H2->Inv (AO X scope NC C s H ex pn) pn' σ H2 s2->P s2)->tl (AO X scope NC C s H ex pn).env D P s')
   (I:Inv X pins σ H s) (h:jV fr wi g tt y0 at_ el σ H Q) (fin:m5 X pins σ use Q QQ) (hs:∀x,foldedSetIterable iter X.env x=pure x) :
   wpAny (model X.prog X.w) X.A (comprehension cE scope X.env cpos mk false (eval iter X.env) use) QQ X.xe s:=by
 refine wpAny_comprehension_free (use:=use) hcl hs (gE (S.has I.ok)) S.kind S.names (thn (hi pins s σ H _ I h) fun v s1 h1=>thn h1 fun itv s2 h2=>?_)
 obtain⟨it,fp,tn,J,H2,e,I2,T,st2,f2,hq⟩:=h2
 subst e
 have hDn:H2 s2.heap.objs.size=none:=I2.hok.fresh (zR _)
 obtain⟨W,⟨m0,w0⟩,turn⟩:=hq s2.heap.objs.size hDn
 rw[hmk]
 refine xM (hd:=hsz) (wpAny_newFunctionEnv S.nocell (by intro y hy;simp at hy) (fun h₁ hns₁ hsb₁=>?_) S.kind)
 dsimp only at hns₁ hsb₁ ⊢
 generalize hs3:({ s2 with heap:=s2.heap.push { cls:=.type Ty,dict:=none,data:=dt } }:Shared)=s3
 have hh3:s2.heap.push { cls:=.type Ty,dict:=none,data:=dt }=s3.heap:=by rw[← hs3]
 have I3:Inv X pins σ (upd H2 s2.heap.objs.size (at_ y0)) s3:=by
   rw[← hs3]
   refine I2.laid (t':=s2.toks) (fun b u e=>zW _ e) (zR _) ?_
   exact hob _ _ I2.big
 rw[hh3] at hns₁ hsb₁ ⊢
 have sz3:s3.heap.objs.size=s2.heap.objs.size+1:=by rw[← hh3,b0W]
 have lt2:∀b∈fp,b < s2.heap.objs.size:=fun b hb=>by
   obtain⟨o,e,_⟩:=T.obj _ _ st2 b hb
   exact zM e
 have lt3:∀b∈fp,b < s3.heap.objs.size:=fun b hb=>by rw[sz3];exact b8J (lt2 b hb)
 have f3:∀b∈fp,JW X pins (upd H2 s2.heap.objs.size (at_ y0)) b:=fun b hb=>⟨by rw[AG (zC (lt2 b hb))];exact(f2 b hb).1,(f2 b hb).2⟩
 have keep1:∀b o,s3.heap.get? b=some o->h₁.get? b=some o:=fun b o e=>hsb₁.extBut b o (zC (zM e)) (zW _ e)
 generalize hC:s3.heap.objs.size=C at hns₁ hsb₁ ⊢
 have I0:Inv (AO X scope NC C s3 (upd H2 s2.heap.objs.size (at_ y0)) fp (X.pn++pins)) [] (capt fr σ) (upd H2 s2.heap.objs.size (at_ y0)) { s2 with heap:=h₁,toks:=s2.toks+([]:List (Str×Value)).length }:=by
   have:=VU (tk:=s2.toks+([]:List (Str×Value)).length) (h1:=h₁) S I3 f3 lt3 (hC▸hns₁) keep1
   rw[hC] at this
   rw[← hs3] at this
   rw[← hs3]
   exact this
 obtain⟨hbg,hbt,hbl⟩:=hb C s3 (upd H2 s2.heap.objs.size (at_ y0)) fp (X.pn++pins)
 generalize hX':AO X scope NC C s3 (upd H2 s2.heap.objs.size (at_ y0)) fp (X.pn++pins)=X' at I0 hbg hbt hbl
 have eP:X'.prog=X.prog:=by rw[← hX'];rfl
 have eW:X'.w=X.w:=by rw[← hX'];rfl
 have eK:X'.K=X.K:=by rw[← hX'];rfl
 have eA:X'.A=X.A:=by rw[← hX'];rfl
 have eE:X'.env=compEnvC scope (KZ X.env.cells scope.names []) C X.env:=by rw[← hX'];rfl
 have eX:X'.xe=fun _ _=>False:=by rw[← hX'];rfl
 have ec:X'.calm=true:=by rw[← hX'];exact hc
 have stat:∀{H':Hp},(∀b∈fp,H' b=none)->∀b∈fp,JW X' [] H' b:=fun {H'} hn b hb=>by
   obtain⟨q1,q2,q3,q4,q5,q6⟩:=f3 b hb
   rw[← hX']
   exact⟨hn b hb,by show b≠C;rw[← hC];exact zC (lt3 b hb),fun z=>(yX.mp (I3.stkSub b z)).elim q2 q3,.inl hb,fun x c e=>q5 x c (BH e),fun p hp=>q6 p (by rw[b2Q] at hp;exact hp)⟩
 have ends:∀(i m:Nat) (ys:Y) (H':Hp) (s':Shared),Inv X' [] (capt fr σ) H' s'->Q (.ref s2.heap.objs.size) H' ->
     compPost (model X.prog X.w) X.A X.xe use QQ (.ref s2.heap.objs.size) C (.ok .next) s':=by
   intro i m ys H' s' I' q'
   have eC:X'.env.locals=C:=by rw[eE];rfl
   obtain⟨mC,hnC,_⟩:=I'.loc
   rw[eC] at hnC
   have hCn:H' C=none:=by have:=I'.free;rw[eC] at this;exact this
   have un:Un (frs X.stack) fp (upd H2 s2.heap.objs.size (at_ y0)) H' s3.heap s'.heap:=by
     have:=I'.base
     rw[← hX'] at this
     exact this
   have os':s'.os=s3.os:=by have:=I'.os;rw[← hX'] at this;exact this
   have hok':HOk X.prog X.w H' s'.heap:=by have:=I'.hok;rw[eP,eW] at this;exact this
   have Iout:Inv X pins σ H' s':=I3.call' (ch:=fp) os' un hok' I'.bare fun b hb=>⟨(f3 b hb).2.2.2.1,(f3 b hb).2.1,(f3 b hb).2.2.2.2.1,(f3 b hb).2.2.2.2.2⟩
   have C1:C≠X.env.locals:=by rw[← hC];exact a9K I3.lt
   have C2:C∉X.fs:=by rw[← hC];exact I3.nofs (zR _)
   have C3:X.s₀.heap.objs.size<=C:=by rw[← hC];exact I3.sz
   have C4:∀x c,X.env.cells.lookup x=some c->c≠C:=fun x c e z=>by
     obtain⟨v,q⟩:=I3.cell x c e
     rw[z,← hC] at q
     exact absurd q.lt (yF _)
   have C5:∀p∈X.pn++pins,p.1≠C:=fun p hp z=>by
     have:=zM (I3.pin p hp).1
     rw[z,← hC] at this
     exact absurd this (yF _)
   obtain⟨oC,esC,epC,hoC,hdC,hrC⟩:=id hnC
   have Ipin:Inv X (pins++[(C,oC)]) σ H' s':=Iout.pins_of fun p hp=>(yW.mp hp).elim (fun z=>Iout.pin p (zB _ z)) fun z=>by
     have e:p=(C,oC):=by simpa using z
     subst e
     exact⟨hoC,hCn,C1,C2,fun v z=>by rw[hdC] at z;cases z⟩
   have res:=fin s2.heap.objs.size C H' s' mC oC Ipin hnC q' (fun _ σ2 H3 s4 h4 I4 sb=>by
     have J4:Inv X pins σ2 H3 s4:=I4.unpinned
     have hn4:H3 C=none:=(I4.pin (C,oC) (zB _ (zB _ (by simp)))).2.1
     exact J4.turned (t':=s4.toks) (it:=C) (fun b o hb e=>sb.extBut b o hb e) hn4 C1 (.inr C3) C4 C5) hoC
   cases use with
   | none=>exact⟨mC,hnC,res⟩
   | some u=>exact res
 have loop:∀s':Shared,s'={ s2 with heap:=h₁,toks:=s2.toks+([]:List (Str×Value)).length } ->
     codeAny (model X.prog X.w) X.A (.compLoop cE 0 (.ref it) (.ref s2.heap.objs.size) (compEnvC scope (KZ X.env.cells scope.names []) C X.env))
       (compPost (model X.prog X.w) X.A X.xe use QQ (.ref s2.heap.objs.size) C) s':=by
   rintro s' rfl
   refine hgo _ _ _ _ (fun n s'=>∃i ys H',Inv X' [] (capt fr σ) H' s'/\tn i s'.heap/\(∀b∈fp,H' b=none)/\W i n ys H') ?_ m0 _
     ⟨0,y0,_,I0,T.keep _ _ _ st2 (fun b hb o e=>keep1 b o (by rw[← hh3];exact zW _ e)),fun b hb=>(f3 b hb).1,w0⟩
   rintro n s5 ⟨i,ys,H5,I5,st5,fr5,w5⟩
   obtain⟨hD5,hturn⟩:=turn i n ys H5 w5
   rcases hturn with ⟨stop,qn⟩ | ⟨go,step⟩
   · have:=T.done X' eP eW eK ec i [] s5 (capt fr σ) H5 (fun _ _=>False) I5 (stat fr5) st5 stop
     rw[eA] at this
     refine thn this fun r s6 ⟨hr,I6⟩=>?_
     subst hr
     exact ends i n ys H5 s6 I6 qn
   · have:=T.item X' eP eW eK ec i [] s5 (capt fr σ) H5 (fun _ _=>False) I5 (stat fr5) st5 go
     rw[eA] at this
     refine thn this fun r s6 ⟨u,hr,h6⟩=>?_
     subst hr
     refine thn h6 fun _ s7 ⟨x,H7,I7,r7,y7,st7,fr7⟩=>?_
     have I7':=I7.pinned (stat fr7) (T.obj _ _ st7)
     have hg1:=hbg _ s7 (capt fr σ) H7 x u _ I7' r7 (step x H7 y7)
     rw[eP,eW,eA,eE,eX] at hg1
     refine thn hg1 fun _ s8 ⟨σ8,H8,I8,ext8,q8⟩=>?_
     have ht1:=hbt _ s8 σ8 H8 _ I8 q8
     rw[eP,eW,eA,eE,eX] at ht1
     refine thn ht1 fun ok s9 ⟨H9,I9,q9⟩=>?_
     have weak:∀{H':Hp}{s':Shared},Inv X' ([]++N6 fp s7.heap) σ8 H' s'->Inv X' [] (capt fr σ) H' s'/\tn (i+1) s'.heap/\∀b∈fp,H' b=none:=fun {H' s'} I'=>by
       refine⟨I'.unpinned.weak (by rw[I'.len];rw[I0.len]) ext8,T.keep _ _ _ st7 fun b hb o e=>(I'.pin (b,o) (zB _ (zB _ (CU hb e)))).1,fun b hb=>?_⟩
       obtain⟨o,e,d⟩:=T.obj _ _ st7 b hb
       exact(I'.pin (b,o) (zB _ (zB _ (CU hb e)))).2.1
     cases ok with
     | false=>
       rw[if_neg nft] at q9
       obtain⟨ys',m',hm',w'⟩:=q9
       obtain⟨a1,a2,a3⟩:=weak I9
       exact⟨m',hm',i+1,ys',H9,a1,a2,a3,w'⟩
     | true=>
       rw[if_pos rfl] at q9
       have ht2:=hbl _ s9 σ8 H9 _ n (W (i+1)) (fun s'=>∃m'',m'' < n/\∃i ys H',Inv X' [] (capt fr σ) H' s'/\tn i s'.heap/\(∀b∈fp,H' b=none)/\W i m'' ys H') I9 q9 fun m y H2 s2 hm w' I'=>by
         obtain⟨a1,a2,a3⟩:=weak I'
         exact⟨m,hm,i+1,y,H2,a1,a2,a3,w'⟩
       rw[eE] at ht2
       exact ht2
 refine hst (loop _ rfl) (T.self _ 0 _ _ _ ?_ (loop _ rfl))
 exact T.keep _ _ _ st2 (fun b hb o e=>keep1 b o (by rw[← hh3];exact zW _ e))
theorem TH {elt iter tg:Expr}{ifs:List Expr}{pos cpos:Pos}{wi:TI}{g:TG}{tt:TT}{te:TE}{use:Option (Value->Sem Unit)}{Q:VK}{QQ:Value->Shared->Prop}(hc:X.calm=true) (S:CSc X scope NC fr) (hi:PI X tg iter wi)
   (hb:∀(C:Addr) (s:Shared) (H:Hp) (ex:List Addr) (pn:List (Addr×Obj)),PG (AO X scope NC C s H ex pn) tg g/\PTs (AO X scope NC C s H ex pn) ifs tt/\PE (AO X scope NC C s H ex pn) elt te)
   (I:Inv X pins σ H s) (h:LQ fr wi g tt te σ H Q) (fin:m5 X pins σ use Q QQ) (hs:∀x,foldedSetIterable iter X.env x=pure x) :
   wpAny (model X.prog X.w) X.A (comprehension (.ListComp elt [⟨tg,iter,ifs,0⟩] scope pos) scope X.env cpos (newList []) false (eval iter X.env) use) QQ X.xe s:=by
 refine L0 (y0:=[]) (at_:=.lst) (Ty:= "list") (dt:=.seq #[]) (tl:=tlL X.prog X.w X.A elt) (el:=fun D m W σ2 H5=>te σ2 H5 fun y H6=>∃ys',H6 D=some (.lst ys')/\ys'.length < sizeLine/\∃m',m' < m/\W m' (ys'++[y]) (upd H6 D (.lst (ys'++[y])))) rfl rfl (by size_fits) (fun H h _=>⟨xT _,[],0,.nil,yZ _ rfl⟩) gF codeAny_compStart_list hc S hi (fun C s H ex pn=>⟨(hb C s H ex pn).1,(hb C s H ex pn).2.1,fun pn' s' σ H' D n W P I q k=>?_⟩) I h fin hs
 refine thn ((hb C s H ex pn).2.2 _ s' σ H' _ I q) fun y s10 ⟨yv,H10,I10,r10,ys',hD,hsz,m',hm',w'⟩=>?_
 exact thn (KY _ s10 σ H10 (.ref D) [yv] (.ref D) [y] (fun _ H'=>∃m',m' < n/\W m' (ys'++[yv]) H') I10 rfl (.cons r10 .nil) ⟨_,ys',yv,rfl,rfl,hD,hsz,m',hm',w'⟩) fun _ s11 ⟨_,H11,I11,_,m'',hm'',w''⟩=>k _ _ _ _ hm'' w'' I11
end
end L2
namespace L2
open PySem PySem.Spec PyProof.Rows
section
variable {X:Cx}{scope:Scope}{NC:List Str}{fr:List (Option Nat)}{elt iter tg:Expr}{ifs:List Expr}{pos:Pos}{wi:TI}{g:TG}{tt:TT}{te:TE}
theorem gI (hc:X.calm=true) (S:CSc X scope NC fr) (hi:PI X tg iter wi)
   (hb:∀(C:Addr) (s:Shared) (H:Hp) (ex:List Addr) (pn:List (Addr×Obj)),PG (AO X scope NC C s H ex pn) tg g/\PTs (AO X scope NC C s H ex pn) ifs tt/\PE (AO X scope NC C s H ex pn) elt te)
   (hs:∀x,foldedSetIterable iter X.env x=pure x:=by intro _;rfl):PE X (.ListComp elt [⟨tg,iter,ifs,0⟩] scope pos) (LQ fr wi g tt te):=by
 intro pins s σ H Q I h
 rw[eval_ListComp]
 refine TH (use:=none) (Q:=Q) hc S hi hb I h (fun D C H' s' m oC I' hn q back _ h' sb=>?_) hs
 exact⟨.ref D,H',back pins σ H' s' h' I' sb,rfl,q⟩
theorem gJ {i:Nat}{x:Str}{py spos:Pos}(hc:X.calm=true) (hN:X.N.Nodup) (hix:X.N[i]?=some x) (hx:Loc X.env.scope x) (S:CSc X scope NC fr) (hi:PI X tg iter wi)
   (hb:∀(C:Addr) (s:Shared) (H:Hp) (ex:List Addr) (pn:List (Addr×Obj)),PG (AO X scope NC C s H ex pn) tg g/\PTs (AO X scope NC C s H ex pn) ifs tt/\PE (AO X scope NC C s H ex pn) elt te)
   (hsw:swapsWith (.ListComp elt [⟨tg,iter,ifs,0⟩] scope pos) (some (.Name x py)) spos.line X.env=pure true)
   (hf:X.fn x=true∨X.env.scope.names.lookup x=some .local:=by first | exact .inl rfl | exact .inr rfl | assumption)
   (hs:∀x,foldedSetIterable iter X.env x=pure x:=by intro _;rfl) :
   PS X (.Assign [.Name x py] (.ListComp elt [⟨tg,iter,ifs,0⟩] scope pos) spos) (fun D σ H=>LQ fr wi g tt te σ H fun v H'=>D.nx (σ.set i (some v)) H'):=by
 intro pins s σ H D I h
 rw[exec_Assign_Name_used _ _ _ _ hsw]
 refine zZ (wpAny_standAt (zZ ?_))
 show wpAny _ X.A (do let _ ← comprehension (.ListComp elt [⟨tg,iter,ifs,0⟩] scope pos) scope X.env _ (newList []) false (eval iter X.env) (some (assign (.Name x py) X.env))) _ _ s
 refine zZ (thn (TH (use:=some (assign (.Name x py) X.env)) (Q:=fun v H'=>D.nx (σ.set i (some v)) H') (QQ:=fun _ s'=>∃σ' H',Inv X pins σ' H' s'/\D.nx σ' H') hc S hi hb I h (fun A C H' s' m oC I' hn q back hoC=>?_) hs) fun _ s' hq=>zY (zY hq))
 have hst:=QV (X:=X) (pos:=py) hN hix hx hf (pins++[(C,oC)]) s' σ H' (.ref A) (.ref A) (fun σ' H'=>D.nx σ' H') I' rfl q
 refine thn hst fun _ s2 ⟨σ2,H2,I2,q2⟩=>?_
 have hC2:s2.heap.get? C=some oC:=(I2.pin (C,oC) (zB _ (zB _ (by simp)))).1
 obtain⟨o',es,ep,ho',hd',hr'⟩:=hn
 rw[hoC] at ho';cases ho'
 exact⟨m,⟨_,es,ep,hC2,hd',hr'⟩,fun h' sb=>⟨σ2,H2,back pins σ2 H2 s2 h' I2 sb,q2⟩⟩
end
def Its (x:Str):It:=⟨fun i _=>i < x.cps.size,fun i H v H'=>H'=H/\∃c,x.cps[i]?=some c/\v = .str ⟨#[c]⟩,fun i _=>i=x.cps.size⟩
theorem TJ {P:Program}{w:World}{K:Frg}{tg:Expr}(it:Addr) (ty:String) (x:Str) (t:Tok) (hty:["enumerate", "zip", "dict_itemiterator", "dict_reverseitemiterator", "odict_iterator", "itertools.zip_longest", "itertools.pairwise"].contains ty=false)
   (W:∀A:Around,A.handled=none->Walks P w A it [it] [it] x.cps.size (SignAt x) (fun i h=>h.IsStrIter it ty x t i))
   (hself:∀(A:Around) (i:Nat) (s:Shared) (Q:Value->Shared->Prop) (E:Value->Shared->Prop),s.heap.IsStrIter it ty x t i->Q (.ref it) s->wpAny (model P w) A (pyIter (.ref it)) Q E s) :
   Turn P w K tg (Its x) [it] it (fun i h=>h.IsStrIter it ty x t i) where
 mem:=by simp
 obj:=fun i h st b hb=>by
   have e:b=it:=by simpa using hb
   subst e
   obtain⟨o,e,c,d⟩:=st
   exact⟨o,e,fun v z=>by rw[d] at z;cases z⟩
 keep:=fun i h h' st k=>by
   obtain⟨o,e,r⟩:=st
   exact⟨o,k it (by simp) o e,r⟩
 item:=by
   intro X hP hw hK hc i pins s σ H E I hf st hg
   subst hP hw hK
   obtain⟨f0,f1,f2,f3,f4,f5⟩:=hf it (by simp)
   refine(W X.A (I.ok.hd hc)).item i s _ _ hg st fun v h' tk hv st' kk=>?_
   obtain⟨c,u,hcx,rfl⟩:=hv
   have I1:Inv X pins σ H { s with heap:=h',toks:=tk }:=I.turned (fun b o hb e=>kk b o (by simpa using hb) e) f0 f1 f3 f4 f5
   obtain⟨o,e,c',d⟩:=id st'
   exact⟨_,rfl,X4 (s:={ s with heap:=h',toks:=tk }) e c' d hty ⟨.str ⟨#[c]⟩,H,I1,⟨u,rfl⟩,⟨rfl,c,hcx,rfl⟩,st',fun b hb=>(hf b hb).1⟩⟩
 done:=by
   intro X hP hw hK hc i pins s σ H E I hf st hg
   subst hP hw hK
   obtain⟨f0,f1,f2,f3,f4,f5⟩:=hf it (by simp)
   have hi:i=x.cps.size:=hg
   subst hi
   refine(W X.A (I.ok.hd hc)).done s _ _ st fun h' tk kk=>⟨rfl,I.turned (fun b o hb e=>kk b o (by simpa using hb) e) f0 f1 f3 f4 f5⟩
 self:=hself
theorem RG (bs:List Bool):(a0J bs.length).all (fun i=>(bs[i]?).getD false)=bs.all id:=by
 rw[a2W,b8V,b8V]
 constructor
 · intro h b hb
   obtain⟨i,hi,rfl⟩:=List.mem_iff_getElem.mp hb
   have:=h i (by simpa using hi)
   simpa [hi] using this
 · intro h i hi
   have hi:i < bs.length:=by simpa using hi
   have:=h bs[i] (b1X hi)
   simpa [hi] using this
theorem RH (bs:List Bool):(a0J bs.length).any (fun i=>(bs[i]?).getD false)=bs.any id:=by
 rw[a2W,a8Q,a8Q]
 constructor
 · rintro⟨i,hi,h⟩
   have hi:i < bs.length:=by simpa using hi
   exact⟨bs[i],b1X hi,by simpa [hi] using h⟩
 · rintro⟨b,hb,h⟩
   obtain⟨i,hi,rfl⟩:=List.mem_iff_getElem.mp hb
   exact⟨i,by simpa using hi,by simpa [hi] using h⟩
section
variable {X:Cx}
theorem XA {bs:List Bool}{its:List Value}(r:Vals (bs.map V.bl) its) {i:Nat}{v:Value}(h:its.toArray[i]?=some v):v = .bool ((bs[i]?).getD false):=by
 have h':its[i]?=some v:=by simpa using h
 have hl:i < its.length:=(yT.mp h').1
 have e:=r.length
 rw[zX] at e
 have hb:(bs.map V.bl)[i]?=some (V.bl bs[i]):=by rw[zF];simp[show i < bs.length by omega]
 obtain⟨u,hu,ru⟩:=r.get hb
 rw[h'] at hu;cases hu
 simp[show i < bs.length by omega]
 exact ru
def qK (X:Cx):List V->Hp->VK->Prop:=fun xs H Q=>∃(p:Addr) (bs:List Bool),xs=[.ref p]/\SqL X.K H p (bs.map V.bl)/\Q (.bl (bs.all id)) H
theorem bI (hc:X.calm=true):B6 X (.builtin "all") (qK X):=by
 intro pins s σ H xs us Q I r h
 obtain⟨p,bs,rfl,hp,q⟩:=h
 obtain⟨u,rfl,ru⟩:=DZ r
 cases ru
 obtain⟨its,rv,pl,hz⟩:=I.list hp
 have hne:p≠s.heap.objs.size:=by obtain⟨o,n,e,_⟩:=pl;exact zC (zM e)
 have el:=rv.length
 rw[zX] at el
 refine call_all_walk (wpAny_pyIter_list pl.isList ?_)
 refine⟨s.heap.objs.size,_,_,_,_,_,fun i=>(bs[i]?).getD false,rfl,Walks.list (show X.A.in1.handled=none from I.ok.hd hc) s.heap.objs.size p hne its.toArray,⟨⟨_,yZ _ rfl,rfl,rfl⟩,?_⟩,fun i v s' Q' E' hv hq=>?_,fun h' tk hk=>?_⟩
 · obtain⟨o,n,e,c,d,dd⟩:=pl
   exact⟨o,zW _ e,c,n,dd⟩
 · rw[XA rv hv]
   exact wpAny_truthy_bool hq
 · refine⟨.bl (bs.all id),H,?_,?_,q⟩
   · exact I.kept (t':=tk) fun b o e=>hk b o (by simp;exact zC (zM e)) (zW _ e)
   · rw[zJ,← el,RG];rfl
def qL (X:Cx):List V->Hp->VK->Prop:=fun xs H Q=>∃(p:Addr) (bs:List Bool),xs=[.ref p]/\SqL X.K H p (bs.map V.bl)/\Q (.bl (bs.any id)) H
theorem bJ (hc:X.calm=true):B6 X (.builtin "any") (qL X):=by
 intro pins s σ H xs us Q I r h
 obtain⟨p,bs,rfl,hp,q⟩:=h
 obtain⟨u,rfl,ru⟩:=DZ r
 cases ru
 obtain⟨its,rv,pl,hz⟩:=I.list hp
 have hne:p≠s.heap.objs.size:=by obtain⟨o,n,e,_⟩:=pl;exact zC (zM e)
 have el:=rv.length
 rw[zX] at el
 refine call_any_walk (wpAny_pyIter_list pl.isList ?_)
 refine⟨s.heap.objs.size,_,_,_,_,_,fun i=>(bs[i]?).getD false,rfl,Walks.list (show X.A.in1.handled=none from I.ok.hd hc) s.heap.objs.size p hne its.toArray,⟨⟨_,yZ _ rfl,rfl,rfl⟩,?_⟩,fun i v s' Q' E' hv hq=>?_,fun h' tk hk=>?_⟩
 · obtain⟨o,n,e,c,d,dd⟩:=pl
   exact⟨o,zW _ e,c,n,dd⟩
 · rw[XA rv hv]
   exact wpAny_truthy_bool hq
 · refine⟨.bl (bs.any id),H,?_,?_,q⟩
   · exact I.kept (t':=tk) fun b o e=>hk b o (by simp;exact zC (zM e)) (zW _ e)
   · rw[zJ,← el,RH];rfl
def m6:V->Option Int->Option Int->Hp->VK->Prop:=fun x lo hi H Q=>∃y,x = .str y/\y.length<=sizeLine/\Q (.str (a0W y lo hi)) H
theorem m7:SlR X m6:=by
 intro pins s σ H x v vl vu lo hi sl Q I rx hs pl pu h
 obtain⟨y,rfl,hz,q⟩:=h
 obtain⟨t,rfl⟩:=rx
 refine⟨"str", _,F.slot_str_getitem.lookup,typeIs_str _ _ _,?_⟩
 cases pl with
 | none=>
   cases pu with
   | none=>exact wpAny_getItem_str_slice (l:=none) (u:=none) (st:=none) hs rfl (post_val_or_str ⟨zN (Txt.slice_le y _ _) hz,fun t' k=>⟨.str _,H,I.tok _,⟨_,rfl⟩,q⟩⟩)
   | int j tj=>exact wpAny_getItem_str_slice (l:=none) (u:=some (j,tj)) (st:=none) hs rfl (post_val_or_str ⟨zN (Txt.slice_le y _ _) hz,fun t' k=>⟨.str _,H,I.tok _,⟨_,rfl⟩,q⟩⟩)
 | int i ti=>
   cases pu with
   | none=>exact wpAny_getItem_str_slice (l:=some (i,ti)) (u:=none) (st:=none) hs rfl (post_val_or_str ⟨zN (Txt.slice_le y _ _) hz,fun t' k=>⟨.str _,H,I.tok _,⟨_,rfl⟩,q⟩⟩)
   | int j tj=>exact wpAny_getItem_str_slice (l:=some (i,ti)) (u:=some (j,tj)) (st:=none) hs rfl (post_val_or_str ⟨zN (Txt.slice_le y _ _) hz,fun t' k=>⟨.str _,H,I.tok _,⟨_,rfl⟩,q⟩⟩)
theorem XB:∀{ys:List Str}{its:List Value},Vals (ys.map V.str) its->StrsAre its ys
 | [],_,.nil=>.nil
 | y::r,_,.cons h t=>by
   obtain⟨tk,rfl⟩:=h
   exact .cons y tk (XB t)
def jW (K:Frg):R2:=fun x y H Q=>∃a b xs ys,x = .ref a/\y = .ref b/\SqL K H a xs/\SqL K H b ys/\xs.length+ys.length<=sizeLine/\∀p,H p=none->Q (.ref p) (upd H p (.lst (xs++ys)))
theorem gK:OpR X (binaryOp .Add) (jW X.K):=by
 intro pins s σ H x y v u Q I rx ry h
 obtain⟨l,b,xs,zs,rfl,rfl,hH,hB,hz,q⟩:=h
 cases rx
 cases ry
 obtain⟨its,r,pl,hl⟩:=I.list hH
 obtain⟨its2,r2,pl2,hl2⟩:=I.list hB
 have e1:=r.length
 have e2:=r2.length
 obtain⟨⟨cls,dd,data,sl⟩,n,ho,hc,_,hd⟩:=pl
 obtain⟨⟨cls2,dd2,data2,sl2⟩,n2,ho2,hc2,_,hd2⟩:=pl2
 dsimp only at hc hd hc2 hd2
 subst hc hd hc2 hd2
 have ea:its.toArray++its2.toArray=(its++its2).toArray:=by simp
 have fin:EP X pins σ Q (.ref s.heap.objs.size) { s with heap:=s.heap.push { cls:=.type "list", data:=.seq (its.toArray++its2.toArray) } }:=by
   rw[ea]
   exact⟨.ref _,_,I.lnew (t':=s.toks) (r.append r2) (by rw[yY];omega),rfl,q _ I.fresh⟩
 exact concat_meets ⟨_,ho,rfl⟩ ⟨_,ho2,rfl⟩ noFill_list_add seq_list_add PySem.F.slot_list_add PySem.F.entry_list_add (PySem.F.args_list_add_2 _ _) (list_addW l b its.toArray its2.toArray n n2 dd dd2 sl sl2 (by rw[zJ,zJ];omega)) ⟨ho,ho2,fin⟩
def jX (i j:Int):Prop:=0 < j/\j < 2 ^ 64
theorem bK:OpR X (binaryOp .FloorDiv) (rI jX fun i j=>.int (i/j)):=opI fun i j _ _ _ _ _ hc q=>by
 have h1:(0:Int) < j:=hc.1
 have h2:j.natAbs.log2 < 9000:=by
   have h0:j.natAbs≠0:=by omega
   have:j.natAbs < 2 ^ 64:=by have:=hc.2;omega
   exact zP ((Nat.log2_lt h0).mpr this) (by decide)
 exact floordiv_int (by omega) (by rw[b6Z i (by omega)];exact q) (.inl (PyProof.noPylong_of_log2 h2))
end
end L2
namespace L2
open PySem PySem.Spec PyProof.Rows
def YU:Key->PyData
 | .inl i=>.int i
 | .inr x=>.str x
def LW (K:Frg) (H:Hp) (W:Addr->Prop) (a:Addr) (xs:List V):Prop:=
 (¬W a/\Rd H a (.lst xs))∨∃(o:Obj) (its:Array Value) (n:Nat),K.lookup a=some o/\o.cls = .type "list" /\ o.dict=none/\o.data = .seq its n/\its.size<=sizeLine/\Vals xs its.toList
def TW (K:Frg) (H:Hp) (W:Addr->Prop) (a:Addr) (xs:List V):Prop:=
 (¬W a/\Rd H a (.tup xs))∨∃(o:Obj) (its:Array Value) (n:Nat),K.lookup a=some o/\o.cls = .type "tuple" /\ o.data = .seq its n/\its.size<=sizeLine/\Vals xs its.toList
theorem LW.sq {K:Frg}{H:Hp}{W:Addr->Prop}{a:Addr}{xs:List V}(h:LW K H W a xs):SqL K H a xs:=h.elim (fun z=>.inl z.2) .inr
theorem TW.sq {K:Frg}{H:Hp}{W:Addr->Prop}{a:Addr}{xs:List V}(h:TW K H W a xs):SqT K H a xs:=h.elim (fun z=>.inl z.2) .inr
mutual
def DV (K:Frg) (H:Hp) (W:Addr->Prop):PyData->V->Prop
 | .none,v=>v = .non
 | .bool b,v=>v = .bl b
 | .int i,v=>v = .int i
 | .str x,v=>v = .str x
 | .list ds,v=>∃a vs,v = .ref a/\LW K H W a vs/\DVs K H W ds vs
 | .tuple ds,v=>∃a vs,v = .ref a/\TW K H W a vs/\DVs K H W ds vs
 | .dict kvs,v=>∃a kvs',v = .ref a/\¬W a/\Rd H a (.dK kvs')/\DKV K H W kvs kvs'
def DVs (K:Frg) (H:Hp) (W:Addr->Prop):List PyData->List V->Prop
 | [],vs=>vs=[]
 | d::ds,vs=>∃v r,vs=v::r/\DV K H W d v/\DVs K H W ds r
def DKV (K:Frg) (H:Hp) (W:Addr->Prop):List (PyData×PyData)->List (Key×V)->Prop
 | [],vs=>vs=[]
 | (k,d)::ds,vs=>∃k' v r,vs=(k',v)::r/\k=YU k'/\DV K H W d v/\DKV K H W ds r
end
structure Grow (K:Frg) (W W':Addr->Prop) (H H':Hp):Prop where
 keep:∀b o,H b=some o->¬W b->H' b=some o∨∃ks ob,o = .dK ks/\H' b=some (.frz ob o)
 new:∀b,W' b->W b∨H b=none
theorem Grow.refl {K:Frg}{W:Addr->Prop}{H:Hp}:Grow K W W H H:=⟨fun _ _ h _=>.inl h,fun _ h=>.inl h⟩
section
variable {K:Frg}{W W' W2:Addr->Prop}{H H' H2:Hp}
theorem Rd.grow (g:Grow K W W' H H') {a:Addr}{o:HO}(nw:¬W a) (h:Rd H a o):Rd H' a o:=by
 rcases h with h | ⟨o',h⟩
 · rcases g.keep _ _ h nw with e | ⟨ks,ob,_,e⟩
   · exact .inl e
   · exact .inr ⟨ob,e⟩
 · rcases g.keep _ _ h nw with e | ⟨ks,ob,e,_⟩
   · exact .inr ⟨o',e⟩
   · cases e
theorem Grow.kept (g:Grow K W W' H H') {a:Addr}{o:HO}(h:H a=some o) (nw:¬W a) (n:∀ks,o≠.dK ks):H' a=some o:=(g.keep a o h nw).elim id fun⟨ks,_,e,_⟩=>absurd e (n ks)
theorem Rd.ne_none {H:Hp}{a:Addr}{o:HO}(h:Rd H a o):H a≠none:=by
 rcases h with h | ⟨o',h⟩ <;> rw[h] <;> simp
theorem Rd.nw (g:Grow K W W' H H') {a:Addr}{o:HO}(nw:¬W a) (h:Rd H a o):¬W' a:=fun w=>by
 rcases g.new a w with z | z
 · exact nw z
 · exact Rd.ne_none h z
theorem LW.grow (g:Grow K W W' H H') {a:Addr}{xs:List V}(h:LW K H W a xs):LW K H' W' a xs:=h.elim (fun z=>.inl ⟨z.2.nw g z.1,z.2.grow g z.1⟩) .inr
theorem TW.grow (g:Grow K W W' H H') {a:Addr}{xs:List V}(h:TW K H W a xs):TW K H' W' a xs:=h.elim (fun z=>.inl ⟨z.2.nw g z.1,z.2.grow g z.1⟩) .inr
mutual
theorem DV.grow (g:Grow K W W' H H'):∀{d:PyData}{v:V},DV K H W d v->DV K H' W' d v
 | .none,v,h=>by unfold DV at h ⊢;exact h
 | .bool b,v,h=>by unfold DV at h ⊢;exact h
 | .int i,v,h=>by unfold DV at h ⊢;exact h
 | .str x,v,h=>by unfold DV at h ⊢;exact h
 | .list ds,v,h=>by
   unfold DV at h ⊢
   obtain⟨a,vs,e,hs,hd⟩:=h
   exact⟨a,vs,e,hs.grow g,DVs.grow g hd⟩
 | .tuple ds,v,h=>by
   unfold DV at h ⊢
   obtain⟨a,vs,e,hs,hd⟩:=h
   exact⟨a,vs,e,hs.grow g,DVs.grow g hd⟩
 | .dict kvs,v,h=>by
   unfold DV at h ⊢
   obtain⟨a,vs,e,nw,hs,hd⟩:=h
   exact⟨a,vs,e,hs.nw g nw,hs.grow g nw,DKV.grow g hd⟩
theorem DVs.grow (g:Grow K W W' H H'):∀{ds:List PyData}{vs:List V},DVs K H W ds vs->DVs K H' W' ds vs
 | [],vs,h=>by unfold DVs at h ⊢;exact h
 | d::ds,vs,h=>by
   unfold DVs at h ⊢
   obtain⟨v,r,e,h1,h2⟩:=h
   exact⟨v,r,e,DV.grow g h1,DVs.grow g h2⟩
theorem DKV.grow (g:Grow K W W' H H'):∀{ds:List (PyData×PyData)}{vs:List (Key×V)},DKV K H W ds vs->DKV K H' W' ds vs
 | [],vs,h=>by unfold DKV at h ⊢;exact h
 | (k,d)::ds,vs,h=>by
   unfold DKV at h ⊢
   obtain⟨k',v,r,e,e2,h1,h2⟩:=h
   exact⟨k',v,r,e,e2,DV.grow g h1,DKV.grow g h2⟩
end
theorem Grow.trans (a:Grow K W W' H H') (b:Grow K W' W2 H' H2):Grow K W W2 H H2:=by
 refine⟨fun x o h nw=>?_,fun x w=>?_⟩
 · have nw':¬W' x:=fun w=>by
     rcases a.new x w with z | z
     · exact nw z
     · rw[h] at z;cases z
   rcases a.keep x o h nw with e | ⟨ks,ob,e1,e2⟩
   · exact b.keep x o e nw'
   · exact .inr ⟨ks,ob,e1,b.kept e2 nw' fun _ z=>nomatch z⟩
 · rcases b.new x w with z | z1
   · exact a.new x z
   · by_cases hx:W x
     · exact .inl hx
     · refine .inr ?_
       cases e:H x with
       | none=>rfl
       | some o=>
         rcases a.keep x o e hx with q | ⟨_,_,_,q⟩ <;> (rw[q] at z1;cases z1)
theorem DVs.length:∀{ds:List PyData}{vs:List V},DVs K H W ds vs->vs.length=ds.length
 | [],vs,h=>by unfold DVs at h;subst h;rfl
 | d::ds,vs,h=>by
   unfold DVs at h
   obtain⟨v,r,e,h1,h2⟩:=h
   subst e
   simp[DVs.length h2]
theorem DVs.get:∀{ds:List PyData}{vs:List V}{i:Nat}{v:V},DVs K H W ds vs->vs[i]?=some v->∃d,ds[i]?=some d/\DV K H W d v
 | [],vs,i,v,h,e=>by unfold DVs at h;subst h;simp at e
 | d::ds,vs,i,v,h,e=>by
   unfold DVs at h
   obtain⟨u,r,e',h1,h2⟩:=h
   subst e'
   cases i with
   | zero=>simp at e;subst e;exact⟨d,rfl,h1⟩
   | succ i=>simpa using DVs.get h2 (by simpa using e)
theorem DVs.get':∀{ds:List PyData}{vs:List V}{i:Nat}{d:PyData},DVs K H W ds vs->ds[i]?=some d->∃v,vs[i]?=some v/\DV K H W d v
 | [],vs,i,v,h,e=>by simp at e
 | d::ds,vs,i,v,h,e=>by
   unfold DVs at h
   obtain⟨u,r,e',h1,h2⟩:=h
   subst e'
   cases i with
   | zero=>simp at e;subst e;exact⟨u,rfl,h1⟩
   | succ i=>simpa using DVs.get' h2 (by simpa using e)
theorem DVs.nil:DVs K H W [] []:=by unfold DVs;rfl
theorem DVs.cons {d:PyData}{v:V}{ds:List PyData}{vs:List V}(h:DV K H W d v) (t:DVs K H W ds vs):DVs K H W (d::ds) (v::vs):=by unfold DVs;exact⟨v,vs,rfl,h,t⟩
theorem DVs.append:∀{ds es:List PyData}{vs us:List V},DVs K H W ds vs->DVs K H W es us->DVs K H W (ds++es) (vs++us)
 | [],es,vs,us,h,t=>by unfold DVs at h;subst h;exact t
 | d::ds,es,vs,us,h,t=>by
   unfold DVs at h
   obtain⟨u,r,e',h1,h2⟩:=h
   subst e'
   exact DVs.cons h1 (DVs.append h2 t)
theorem DVs.set:∀{ds:List PyData}{vs:List V}{d:PyData}{v:V}(i:Nat),DVs K H W ds vs->DV K H W d v->DVs K H W (ds.set i d) (vs.set i v)
 | [],vs,d,v,i,h,t=>by unfold DVs at h;subst h;exact DVs.nil
 | e::ds,vs,d,v,i,h,t=>by
   unfold DVs at h
   obtain⟨u,r,e',h1,h2⟩:=h
   subst e'
   cases i with
   | zero=>exact DVs.cons t h2
   | succ i=>exact DVs.cons h1 (DVs.set i h2 t)
theorem DVs.drop:∀{ds:List PyData}{vs:List V}(i:Nat),DVs K H W ds vs->DVs K H W (ds.drop i) (vs.drop i)
 | ds,vs,0,h=>h
 | [],vs,i+1,h=>by unfold DVs at h;subst h;exact DVs.nil
 | e::ds,vs,i+1,h=>by
   unfold DVs at h
   obtain⟨u,r,e',h1,h2⟩:=h
   subst e'
   exact DVs.drop i h2
theorem DVs.take:∀{ds:List PyData}{vs:List V}(i:Nat),DVs K H W ds vs->DVs K H W (ds.take i) (vs.take i)
 | ds,vs,0,h=>DVs.nil
 | [],vs,i+1,h=>by unfold DVs at h;subst h;exact DVs.nil
 | e::ds,vs,i+1,h=>by
   unfold DVs at h
   obtain⟨u,r,e',h1,h2⟩:=h
   subst e'
   exact DVs.cons h1 (DVs.take i h2)
theorem L1:∀{bs:List Bool}{vs:List V},DVs K H W (bs.map PyData.bool) vs->vs=bs.map V.bl
 | [],vs,h=>by unfold DVs at h;exact h
 | b::bs,vs,h=>by
   simp only[zI] at h
   unfold DVs at h
   obtain⟨u,r,e',h1,h2⟩:=h
   unfold DV at h1
   subst e' h1
   rw[L1 h2];rfl
theorem JZ:∀{bs:List Str}{vs:List V},DVs K H W (bs.map a0K) vs->vs=bs.map V.str
 | [],vs,h=>by unfold DVs at h;exact h
 | b::bs,vs,h=>by
   simp only[zI] at h
   unfold DVs at h
   obtain⟨u,r,e',h1,h2⟩:=h
   unfold DV at h1
   subst e' h1
   rw[JZ h2];rfl
end
section
variable {X:Cx}{pins:List (Addr×Obj)}{σ:St}{H:Hp}{s:Shared}{W:Addr->Prop}
mutual
theorem DV.reads (I:Inv X pins σ H s):∀{d:PyData}{v:V}{u:Value},d.canLay0=true->DV X.K H W d v->RelV v u->∃as,PySem.Reads s.heap u d as
 | .none,v,u,c,h,r=>by unfold DV at h;subst h;cases r;exact⟨_,.none⟩
 | .bool b,v,u,c,h,r=>by unfold DV at h;subst h;cases r;exact⟨_,.bool b⟩
 | .int i,v,u,c,h,r=>by unfold DV at h;subst h;obtain⟨t,rfl⟩:=r;exact⟨_,.int i t⟩
 | .str x,v,u,c,h,r=>by unfold DV at h;subst h;obtain⟨t,rfl⟩:=r;exact⟨_,.str x t⟩
 | .list ds,v,u,c,h,r=>by
   unfold DV at h
   obtain⟨a,vs,rfl,hs,hd⟩:=h
   cases r
   obtain⟨its,rv,⟨o,n,e,hc,_,dd⟩,_⟩:=I.list hs.sq
   obtain⟨as,q⟩:=DVs.reads I (by simpa [b5J] using c) hd rv
   exact⟨_,.list e hc dd (by simpa using q)⟩
 | .tuple ds,v,u,c,h,r=>by
   unfold DV at h
   obtain⟨a,vs,rfl,hs,hd⟩:=h
   cases r
   obtain⟨its,rv,⟨o,e,hc,n,dd⟩,_⟩:=I.tuple hs.sq
   obtain⟨as,q⟩:=DVs.reads I (by simpa [b5J] using c) hd rv
   exact⟨_,.tuple e hc dd (by simpa using q)⟩
 | .dict kvs,v,u,c,h,r=>by simp[b5J] at c
theorem DVs.reads (I:Inv X pins σ H s):∀{ds:List PyData}{vs:List V}{us:List Value},b6K ds=true->DVs X.K H W ds vs->Vals vs us->∃as,PySem.ReadsAll s.heap us ds as
 | [],vs,us,c,h,r=>by unfold DVs at h;subst h;cases r;exact⟨_,.nil⟩
 | d::ds,vs,us,c,h,r=>by
   unfold DVs at h
   obtain⟨v,q,rfl,h1,h2⟩:=h
   cases r with
   | cons r1 r2=>
     simp[b6K] at c
     obtain⟨as,q1⟩:=DV.reads I c.1 h1 r1
     obtain⟨bs,q2⟩:=DVs.reads I c.2 h2 r2
     exact⟨_,.cons q1 q2⟩
end
def YV (K:Frg) (neg:Bool):R2:=fun x y H Q=>∃(W:Addr->Prop) (da db:PyData),DV K H W da x/\DV K H W db y/\zH da=true/\zH db=true/\Q (.bl (if neg then !a0Z da db else a0Z da db)) H
theorem m8 (hu:X.A.units+64 < cLine):OpR X (compareOp .Eq) (YV X.K false):=by
 intro pins s σ H x y v u Q I rx ry h
 obtain⟨W,da,db,h1,h2,s1,s2,q⟩:=h
 obtain⟨as,r1⟩:=h1.reads I (zG s1) rx
 obtain⟨bs,r2⟩:=h2.reads I (zG s2) ry
 exact PySem.SeqAt.compareEq_shaped r1 r2 s1 s2 hu ⟨.bl _,H,I,rfl,q⟩
theorem m9 (hu:X.A.units+64 < cLine):OpR X (compareOp .NotEq) (YV X.K true):=by
 intro pins s σ H x y v u Q I rx ry h
 obtain⟨W,da,db,h1,h2,s1,s2,q⟩:=h
 obtain⟨as,r1⟩:=h1.reads I (zG s1) rx
 obtain⟨bs,r2⟩:=h2.reads I (zG s2) ry
 exact PySem.SeqAt.compareNe_shaped r1 r2 s1 s2 hu ⟨.bl _,H,I,rfl,q⟩
end
end L2
namespace DL
open PySem PySem.Spec L2
abbrev St:=L2.St
inductive MO where
 | l (ds:List PyData)
 | d (kvs:List (PyData×PyData))
 | t (kvs:List (List Key×PyData))
 | x (C:Addr) (fs:List (Str×PyData))
abbrev Own:=Addr->Option MO
def Own.W (M:Own):Addr->Prop:=fun a=>M a≠none
def Own.put (M:Own) (a:Addr) (o:MO):Own:=fun b=>if b=a then some o else M b
def Own.del (M:Own) (a:Addr):Own:=fun b=>if b=a then none else M b
def Own.Sub (M N:Own):Prop:=∀a o,M a=some o->N a=some o
theorem zU {M:Own}{a:Addr}{o:MO}:M.put a o a=some o:=by unfold Own.put;rw[if_pos rfl]
theorem yH {M:Own}{a b:Addr}{o:MO}(h:b≠a):M.put a o b=M b:=by unfold Own.put;rw[if_neg h]
theorem yI {M:Own}{a:Addr}{o o':MO}:(M.put a o).put a o'=M.put a o':=by
 funext b;unfold Own.put;by_cases h:b=a <;> simp[h]
theorem Own.put_comm {M:Own}{a b:Addr}{o o':MO}(h:a≠b):(M.put a o).put b o'=(M.put b o').put a o:=by
 funext c;unfold Own.put
 by_cases h1:c=b
 · subst h1;simp[b1Q h]
 · simp[h1]
theorem yG {M:Own}{a:Addr}{o:MO}(h:M a=none):(M.put a o).del a=M:=by
 funext b;unfold Own.put Own.del
 by_cases e:b=a
 · subst e;simp[h]
 · simp[e]
theorem Own.put_self {M:Own}{a:Addr}{o:MO}(h:M a=some o):M.put a o=M:=by
 funext b;unfold Own.put
 by_cases e:b=a
 · subst e;simp[h]
 · simp[e]
theorem zT (M:Own):M.Sub M:=fun _ _ h=>h
theorem Own.Sub.put {M N:Own}{a:Addr}{o:MO}(h:M.Sub N) (n:M a=none):M.Sub (N.put a o):=fun b x e=>by
 rw[yH (by rintro rfl;rw[n] at e;cases e)];exact h b x e
inductive DS where
 | d (x:PyData)
 | loc (a:Addr)
 | ty (n:String)
 | tl (ds:List PyData) (a:Addr)
def SI (K:Frg) (H:Hp) (M:Own):DS->V->Prop
 | .d x,v=>DV K H M.W x v
 | .loc a,v=>v = .ref a
 | .ty n,v=>v = .ty n
 | .tl ds a,v=>∃b vs,v = .ref b/\TW K H M.W b (vs++[.ref a])/\DVs K H M.W ds vs
def SIs (K:Frg) (H:Hp) (M:Own):List DS->List V->Prop
 | [],vs=>vs=[]
 | d::ds,vs=>∃v r,vs=v::r/\SI K H M d v/\SIs K H M ds r
def XI (K:Frg) (H:Hp) (W:Addr->Prop):Option Addr->List (Str×PyData)->Prop
 | none,[]=>True
 | some d,[(n,x)]=>∃v,¬W d/\H d=some (.xd [(n,v)])/\DV K H W x v
 | _,_=>False
theorem XI.grow {K:Frg}{W W':Addr->Prop}{H H':Hp}(g:Grow K W W' H H') {dd:Option Addr}{fs:List (Str×PyData)}(h:XI K H W dd fs):XI K H' W' dd fs:=by
 unfold XI at h ⊢
 split at h
 · trivial
 · obtain⟨v,nw,a,b⟩:=h
   exact⟨v,fun z=>(g.new _ z).elim nw fun q=>by(rw[a] at q;cases q),g.kept a nw (fun _ z=>nomatch z),b.grow g⟩
 · exact h.elim
def exK (a C:Addr) (dd:Option Addr):HO:=.ext fun h=>∃o vs,h.get? a=some o/\o.cls = .ref C/\o.dict=dd/\o.data = .fields vs
def DTV (K:Frg) (H:Hp) (W:Addr->Prop) (kvs:List (List Key×PyData)) (ks:List (List Key×V)):Prop:=ks.map (·.1)=kvs.map (·.1)/\DVs K H W (kvs.map (·.2)) (ks.map (·.2))
theorem DTV.grow {K:Frg}{W W':Addr->Prop}{H H':Hp}(g:Grow K W W' H H') {kvs:List (List Key×PyData)}{ks:List (List Key×V)}(h:DTV K H W kvs ks):DTV K H' W' kvs ks:=⟨h.1,h.2.grow g⟩
def OA1 (K:Frg) (H:Hp) (M:Own) (a:Addr):MO->Prop
 | .x C fs=>∃dd,H a=some (exK a C dd)/\XI K H M.W dd fs
 | .l ds=>∃vs,H a=some (.lst vs)/\DVs K H M.W ds vs
 | .d kvs=>∃ks,H a=some (.dK ks)/\DKV K H M.W kvs ks
 | .t kvs=>∃ks,H a=some (.dT ks)/\DTV K H M.W kvs ks
def OA (K:Frg) (H:Hp) (M:Own):Prop:=∀a o,M a=some o->OA1 K H M a o
structure Step (K:Frg) (M M':Own) (H H':Hp):Prop where
 grow:Grow K M.W M'.W H H'
structure Rel (K:Frg) (M:Own) (ρ:List (Option DS)) (σ:St) (H:Hp):Prop where
 own:OA K H M
 len:ρ.length=σ.length
 slot:∀(i:Nat) x,ρ[i]?=some (some x)->∃v,σ[i]?=some (some v)/\SI K H M x v
section
variable {K:Frg}{M M' M2:Own}{H H' H2:Hp}{ρ:List (Option DS)}{σ:St}
theorem Step.refl:Step K M M H H:=⟨Grow.refl⟩
theorem Step.trans (a:Step K M M' H H') (b:Step K M' M2 H' H2):Step K M M2 H H2:=⟨a.grow.trans b.grow⟩
theorem SI.step (st:Step K M M' H H'):∀{x:DS}{v:V},SI K H M x v->SI K H' M' x v
 | .d _,_,h=>DV.grow st.grow h
 | .loc _,_,h=>h
 | .ty _,_,h=>h
 | .tl _ _,_,⟨b,vs,e,h1,h2⟩=>⟨b,vs,e,h1.grow st.grow,h2.grow st.grow⟩
theorem Rel.step (R:Rel K M ρ σ H) (oa:OA K H' M') (st:Step K M M' H H'):Rel K M' ρ σ H':=
 ⟨oa,R.len,fun i x e=>let ⟨v,h1,h2⟩:=R.slot i x e;⟨v,h1,h2.step st⟩⟩
theorem Rel.set (R:Rel K M ρ σ H) {x:DS}{v:V}(h:SI K H M x v) (i:Nat):Rel K M (ρ.set i (some x)) (σ.set i (some v)) H:=by
 refine⟨R.own,by rw[List.length_set,List.length_set];exact R.len,fun j y e=>?_⟩
 rw[List.getElem?_set] at e ⊢
 by_cases hij:i=j
 · rw[if_pos hij] at e ⊢
   subst hij
   by_cases hl:i < ρ.length
   · rw[if_pos hl] at e
     cases e
     rw[if_pos (by rw[← R.len];exact hl)]
     exact⟨v,rfl,h⟩
   · rw[if_neg hl] at e;cases e
 · rw[if_neg hij] at e ⊢
   exact R.slot j y e
theorem OA.none (oa:OA K H M) {p:Addr}(h:H p=b7J):M p=b7J:=by
 cases e:M p with
 | none=>rfl
 | some o=>
   have:=oa p o e
   cases o <;> (obtain⟨vs,q,_⟩:=this;rw[h] at q;cases q)
theorem AR {p:Addr}{o:HO}(W:Addr->Prop) (h:H p=b7J):Grow K W W H (upd H p o):=
 ⟨fun b u e _=>.inl (by rw[AG (B0 e h)];exact e),fun _ w=>.inl w⟩
theorem OA.grow (oa:OA K H M) (g:Grow K M.W M.W H H') (hk:∀a o,M a=some o->H' a=H a):OA K H' M:=fun a o e=>by
 have q:=oa a o e
 cases o <;> (obtain⟨vs,q1,q2⟩:=q;exact⟨vs,by rw[hk a _ e];exact q1,q2.grow g⟩)
theorem OA.new {p:Addr}{o:HO}(oa:OA K H M) (h:H p=b7J):OA K (upd H p o) M:=oa.grow (AR _ h) fun a x e=>by
 rw[AG (by rintro rfl;rw[oa.none h] at e;cases e)]
theorem MX {p:Addr}{vs:List V}{ds:List PyData}(oa:OA K H M) (h:H p=b7J) (hd:DVs K H M.W ds vs) :
   OA K (upd H p (.lst vs)) (M.put p (.l ds))/\Step K M (M.put p (.l ds)) H (upd H p (.lst vs)):=by
 have hM:=oa.none h
 have g:Grow K M.W (M.put p (.l ds)).W H (upd H p (.lst vs)):=⟨fun b u e _=>.inl (by rw[AG (B0 e h)];exact e),fun b w=>by
   by_cases hb:b=p
   · subst hb;exact .inr h
   · left;unfold Own.W at w ⊢;rw[yH hb] at w;exact w⟩
 refine⟨fun a o e=>?_,⟨g⟩⟩
 · by_cases ha:a=p
   · subst ha;rw[zU] at e;cases e;exact⟨vs,AE,hd.grow g⟩
   · rw[yH ha] at e
     have q:=oa a o e
     cases o <;> (obtain⟨vs,q1,q2⟩:=q;exact⟨vs,by rw[AG ha];exact q1,q2.grow g⟩)
theorem FH {p:Addr}{vs':List V}{ds':List PyData}{o:MO}(oa:OA K H M) (h:M p=some o) (hd:DVs K H M.W ds' vs') :
   OA K (upd H p (.lst vs')) (M.put p (.l ds'))/\Step K M (M.put p (.l ds')) H (upd H p (.lst vs')):=by
 have hw:∀b,(M.put p (.l ds')).W b->M.W b:=fun b w=>by
   unfold Own.W at w ⊢
   by_cases hb:b=p
   · subst hb;rw[h];simp
   · rw[yH hb] at w;exact w
 have g:Grow K M.W (M.put p (.l ds')).W H (upd H p (.lst vs')):=⟨fun b u e nw=>.inl (by
   rw[AG (by rintro rfl;exact nw (by unfold Own.W;rw[h];simp))];exact e),fun b w=>.inl (hw b w)⟩
 refine⟨fun a o e=>?_,⟨g⟩⟩
 · by_cases ha:a=p
   · subst ha;rw[zU] at e;cases e;exact⟨vs',AE,hd.grow g⟩
   · rw[yH ha] at e
     have q:=oa a o e
     cases o <;> (obtain⟨vs,q1,q2⟩:=q;exact⟨vs,by rw[AG ha];exact q1,q2.grow g⟩)
theorem B1 (hs:M'.Sub M):Grow K M.W M'.W H H:=⟨fun _ _ e _=>.inl e,fun b w=>.inl (by
 unfold Own.W at w ⊢
 cases e:M' b with
 | none=>exact absurd e w
 | some o=>rw[hs b o e];simp)⟩
theorem OA.sub (oa:OA K H M) (hs:M'.Sub M):OA K H M':=fun a o e=>by
 have q:=oa a o (hs a o e)
 cases o <;> (obtain⟨vs,q1,q2⟩:=q;exact⟨vs,q1,q2.grow (B1 hs)⟩)
theorem SI.sub (hs:M'.Sub M):∀{x:DS}{v:V},SI K H M x v->SI K H M' x v
 | .d _,_,h=>DV.grow (B1 hs) h
 | .loc _,_,h=>h
 | .ty _,_,h=>h
 | .tl _ _,_,⟨b,vs,e,h1,h2⟩=>⟨b,vs,e,h1.grow (B1 hs),h2.grow (B1 hs)⟩
end
def DE (K:Frg) (t:TE) (ρ:List (Option DS)) (M:Own) (Q:DS->Own->Prop):Prop:=
 ∀(σ:St) (H:Hp) (QQ:VK),Rel K M ρ σ H->(∀v H' x M',OA K H' M'->SI K H' M' x v->Step K M M' H H'->Q x M'->QQ v H')->t σ H QQ
def DT (K:Frg) (t:TT) (ρ:List (Option DS)) (M:Own) (Q:Bool->Own->Prop):Prop:=
 ∀(σ:St) (H:Hp) (QQ:Bool->Hp->Prop),Rel K M ρ σ H->(∀b H' M',OA K H' M'->Step K M M' H H'->Q b M'->QQ b H')->t σ H QQ
def DA (K:Frg) (t:TA) (ρ:List (Option DS)) (M:Own) (Q:List DS->Own->Prop):Prop:=
 ∀(σ:St) (H:Hp) (QQ:List V->Hp->Prop),Rel K M ρ σ H->(∀vs H' xs M',OA K H' M'->SIs K H' M' xs vs->Step K M M' H H'->Q xs M'->QQ vs H')->t σ H QQ
def DP (K:Frg) (t:TO) (ρ:List (Option DS)) (M:Own) (Q:Option Int->Own->Prop):Prop:=
 ∀(σ:St) (H:Hp) (QQ:Option Int->Hp->Prop),Rel K M ρ σ H->(∀b H' M',OA K H' M'->Step K M M' H H'->Q b M'->QQ b H')->t σ H QQ
structure EndsD where
 nx:List (Option DS)->Own->Prop
 rt:DS->Own->Prop
 bk:List (Option DS)->Own->Prop:=fun _ _=>False
 ct:List (Option DS)->Own->Prop:=fun _ _=>False
def DSt (K:Frg) (t:TS) (ρ:List (Option DS)) (M:Own) (D:EndsD):Prop:=
 ∀(σ:St) (H:Hp) (E:Ends),Rel K M ρ σ H->(∀ρ' M' σ' H',Rel K M' ρ' σ' H'->Step K M M' H H'->D.nx ρ' M'->E.nx σ' H')->(∀v H' x M',OA K H' M'->SI K H' M' x v->Step K M M' H H'->D.rt x M'->E.rt v H') ->
   (∀ρ' M' σ' H',Rel K M' ρ' σ' H'->Step K M M' H H'->D.bk ρ' M'->E.bk σ' H')->(∀ρ' M' σ' H',Rel K M' ρ' σ' H'->Step K M M' H H'->D.ct ρ' M'->E.ct σ' H')->t E σ H
def D1 (K:Frg) (r:V->Hp->VK->Prop) (x:DS) (M:Own) (Q:DS->Own->Prop):Prop:=
 ∀(H:Hp) (v:V) (QQ:VK),OA K H M->SI K H M x v->(∀w H' z M',OA K H' M'->SI K H' M' z w->Step K M M' H H'->Q z M'->QQ w H')->r v H QQ
def D2 (K:Frg) (r:R2) (x y:DS) (M:Own) (Q:DS->Own->Prop):Prop:=
 ∀(H:Hp) (v u:V) (QQ:VK),OA K H M->SI K H M x v->SI K H M y u->(∀w H' z M',OA K H' M'->SI K H' M' z w->Step K M M' H H'->Q z M'->QQ w H')->r v u H QQ
def DR (K:Frg) (r:List V->Hp->VK->Prop) (xs:List DS) (M:Own) (Q:DS->Own->Prop):Prop:=
 ∀(H:Hp) (vs:List V) (QQ:VK),OA K H M->SIs K H M xs vs->(∀w H' z M',OA K H' M'->SI K H' M' z w->Step K M M' H H'->Q z M'->QQ w H')->r vs H QQ
def DM (K:Frg) (r:V->List V->Hp->VK->Prop) (x:DS) (xs:List DS) (M:Own) (Q:DS->Own->Prop):Prop:=
 ∀(H:Hp) (v:V) (vs:List V) (QQ:VK),OA K H M->SI K H M x v->SIs K H M xs vs->(∀w H' z M',OA K H' M'->SI K H' M' z w->Step K M M' H H'->Q z M'->QQ w H')->r v vs H QQ
def DSl (K:Frg) (r:V->Option Int->Option Int->Hp->VK->Prop) (x:DS) (lo hi:Option Int) (M:Own) (Q:DS->Own->Prop):Prop:=
 ∀(H:Hp) (v:V) (QQ:VK),OA K H M->SI K H M x v->(∀w H' z M',OA K H' M'->SI K H' M' z w->Step K M M' H H'->Q z M'->QQ w H')->r v lo hi H QQ
def DTy (K:Frg) (T:String) (x:DS) (M:Own):Prop:=∀(H:Hp) (v:V),OA K H M->SI K H M x v->tyV K T v H
section
variable {K:Frg}{ρ:List (Option DS)}{M:Own}{Q:DS->Own->Prop}{QB:Bool->Own->Prop}{ta tb tc:TE}{tA tB':TT}{r r':R2}
theorem RI {t:TE}{Q':DS->Own->Prop}(h:DE K t ρ M Q) (hq:∀x M',Q x M'->Q' x M'):DE K t ρ M Q':=fun σ H QQ R k=>h σ H QQ R fun v H' x M' a b c q=>k v H' x M' a b c (hq x M' q)
theorem mB {i:Nat}{x:DS}(e:ρ[i]?=some (some x)) (h:Q x M):DE K (fM i) ρ M Q:=fun σ H QQ R k=>by
 obtain⟨v,h1,h2⟩:=R.slot i x e
 exact⟨v,h1,k v H x M R.own h2 Step.refl h⟩
theorem mD {i:Int}(h:Q (.d (.int i)) M):DE K (tC (.int i)) ρ M Q:=fun σ H QQ R k=>k _ H (.d (.int i)) M R.own (by unfold SI DV;rfl) Step.refl h
theorem pB {i:Bool}(h:Q (.d (.bool i)) M):DE K (tC (.bl i)) ρ M Q:=fun σ H QQ R k=>k _ H (.d (.bool i)) M R.own (by unfold SI DV;rfl) Step.refl h
theorem mE {i:Str}(h:Q (.d (.str i)) M):DE K (tC (.str i)) ρ M Q:=fun σ H QQ R k=>k _ H (.d (.str i)) M R.own (by unfold SI DV;rfl) Step.refl h
theorem mF (h:Q (.d .none) M):DE K (tC .non) ρ M Q:=fun σ H QQ R k=>k _ H (.d .none) M R.own (by unfold SI DV;rfl) Step.refl h
theorem pC {n:String}(h:Q (.ty n) M):DE K (tC (.ty n)) ρ M Q:=fun σ H QQ R k=>k _ H (.ty n) M R.own rfl Step.refl h
theorem pD (h:DE K ta ρ M fun x M1=>DE K tb ρ M1 fun y M2=>D2 K r x y M2 Q):DE K (tOp r ta tb) ρ M Q:=fun σ H QQ R k=>
 h σ H _ R fun v H1 x M1 o1 s1 t1 h1=>h1 σ H1 _ (R.step o1 t1) fun u H2 y M2 o2 s2 t2 h2=>h2 H2 v u QQ o2 (s1.step t2) s2 fun w H3 z M3 o3 s3 t3 q=>k w H3 z M3 o3 s3 ((t1.trans t2).trans t3) q
theorem pE {r:V->Hp->VK->Prop}(h:DE K ta ρ M fun x M1=>D1 K r x M1 Q):DE K (tUn r ta) ρ M Q:=fun σ H QQ R k=>
 h σ H _ R fun v H1 x M1 o1 s1 t1 h1=>h1 H1 v QQ o1 s1 fun w H3 z M3 o3 s3 t3 q=>k w H3 z M3 o3 s3 (t1.trans t3) q
theorem bL (h:DE K ta ρ M fun x M1=>DE K tb ρ M1 fun y M2=>D2 K r x y M2 fun z M3=>∃c,z = .d (.bool c)/\if c=true then DE K tc ρ M3 (fun w M4=>D2 K r' y w M4 Q) else Q (.d (.bool false)) M3) :
   DE K (aS r r' ta tb tc) ρ M Q:=fun σ H QQ R k=>
 h σ H _ R fun v H1 x M1 o1 s1 t1 h1=>h1 σ H1 _ (R.step o1 t1) fun u H2 y M2 o2 s2 t2 h2=>h2 H2 v u _ o2 (s1.step t2) s2 fun w H3 z M3 o3 s3 t3 q=>by
   obtain⟨c,rfl,q⟩:=q
   unfold SI DV at s3
   refine⟨c,s3,?_⟩
   cases c with
   | false=>
     rw[if_neg nft] at q ⊢
     exact k _ H3 _ M3 o3 (by unfold SI DV;rfl) ((t1.trans t2).trans t3) q
   | true=>
     rw[if_pos rfl] at q ⊢
     exact q σ H3 _ (R.step o3 ((t1.trans t2).trans t3)) fun w4 H4 z4 M4 o4 s4 t4 h4=>h4 H4 u w4 QQ o4 (s2.step (t3.trans t4)) s4 fun w5 H5 z5 M5 o5 s5 t5 q5=>k w5 H5 z5 M5 o5 s5 ((((t1.trans t2).trans t3).trans t4).trans t5) q5
theorem gL (h:DE K ta ρ M fun x M1=>∃c,x = .d (.bool c)/\QB c M1):DT K (jO ta) ρ M QB:=fun σ H QQ R k=>
 h σ H _ R fun v H1 x M1 o1 s1 t1 h1=>by
   obtain⟨c,rfl,q⟩:=h1
   unfold SI DV at s1
   exact⟨c,s1,k c H1 M1 o1 t1 q⟩
theorem qM (h:DE K ta ρ M fun x M1=>∃c,x = .d (.bool c)/\QB c M1):DT K (L2.tB ta) ρ M QB:=fun σ H QQ R k=>
 h σ H _ R fun v H1 x M1 o1 s1 t1 h1=>by
   obtain⟨c,rfl,q⟩:=h1
   unfold SI DV at s1
   exact⟨c,s1,k c H1 M1 o1 t1 q⟩
theorem mG (h:DT K tA ρ M fun c M1=>if c=true then DT K tB' ρ M1 QB else QB false M1):DT K (oI tA tB') ρ M QB:=fun σ H QQ R k=>
 h σ H _ R fun c H1 M1 o1 t1 h1=>by
   cases c with
   | false=>rw[if_neg nft] at h1 ⊢;exact k _ H1 M1 o1 t1 h1
   | true=>rw[if_pos rfl] at h1 ⊢;exact h1 σ H1 QQ (R.step o1 t1) fun b H2 M2 o2 t2 q=>k b H2 M2 o2 (t1.trans t2) q
theorem pF (h:DT K tA ρ M fun c M1=>if c=true then QB true M1 else DT K tB' ρ M1 QB):DT K (tOr tA tB') ρ M QB:=fun σ H QQ R k=>
 h σ H _ R fun c H1 M1 o1 t1 h1=>by
   cases c with
   | true=>rw[if_pos rfl] at h1 ⊢;exact k _ H1 M1 o1 t1 h1
   | false=>rw[if_neg nft] at h1 ⊢;exact h1 σ H1 QQ (R.step o1 t1) fun b H2 M2 o2 t2 q=>k b H2 M2 o2 (t1.trans t2) q
theorem mH (h:DT K tA ρ M fun c M1=>QB (!c) M1):DT K (oJ tA) ρ M QB:=fun σ H QQ R k=>h σ H _ R fun c H1 M1 o1 t1 h1=>k _ H1 M1 o1 t1 h1
theorem mI (h:QB true M):DT K gG ρ M QB:=fun σ H QQ R k=>k true H M R.own Step.refl h
theorem mJ (h:DE K ta ρ M fun x M1=>∃c,x = .d (.bool c)/\if c=true then DE K tb ρ M1 Q else Q (.d (.bool false)) M1):DE K (jF ta tb) ρ M Q:=fun σ H QQ R k=>
 h σ H _ R fun v H1 x M1 o1 s1 t1 h1=>by
   obtain⟨c,rfl,q⟩:=h1
   unfold SI DV at s1
   refine⟨c,s1,?_⟩
   cases c with
   | false=>rw[if_neg nft] at q ⊢;exact k _ H1 _ M1 o1 (by unfold SI DV;rfl) t1 q
   | true=>rw[if_pos rfl] at q ⊢;exact q σ H1 QQ (R.step o1 t1) fun w H2 z M2 o2 s2 t2 q=>k w H2 z M2 o2 s2 (t1.trans t2) q
theorem mK (h:DE K ta ρ M fun x M1=>∃c,x = .d (.bool c)/\Q (.d (.bool (!c))) M1):DE K (jG ta) ρ M Q:=fun σ H QQ R k=>
 h σ H _ R fun v H1 x M1 o1 s1 t1 h1=>by
   obtain⟨c,rfl,q⟩:=h1
   unfold SI DV at s1
   exact⟨c,s1,k _ H1 _ M1 o1 (by unfold SI DV;rfl) t1 q⟩
theorem pG (h:DT K tA ρ M fun c M1=>if c=true then DE K ta ρ M1 Q else DE K tb ρ M1 Q):DE K (tIf tA ta tb) ρ M Q:=fun σ H QQ R k=>
 h σ H _ R fun c H1 M1 o1 t1 h1=>by
   cases c with
   | true=>rw[if_pos rfl] at h1 ⊢;exact h1 σ H1 QQ (R.step o1 t1) fun w H2 z M2 o2 s2 t2 q=>k w H2 z M2 o2 s2 (t1.trans t2) q
   | false=>rw[if_neg nft] at h1 ⊢;exact h1 σ H1 QQ (R.step o1 t1) fun w H2 z M2 o2 s2 t2 q=>k w H2 z M2 o2 s2 (t1.trans t2) q
variable {QL:List DS->Own->Prop}{tl:TA}
theorem mL (h:QL [] M):DA K oV ρ M QL:=fun σ H QQ R k=>k [] H [] M R.own rfl Step.refl h
theorem gM (h:DE K ta ρ M fun x M1=>DA K tl ρ M1 fun xs M2=>QL (x::xs) M2):DA K (jQ ta tl) ρ M QL:=fun σ H QQ R k=>
 h σ H _ R fun v H1 x M1 o1 s1 t1 h1=>h1 σ H1 _ (R.step o1 t1) fun vs H2 xs M2 o2 s2 t2 q=>k (v::vs) H2 (x::xs) M2 o2 ⟨v,vs,rfl,s1.step t2,s2⟩ (t1.trans t2) q
def P1:List DS->Option (List PyData)
 | []=>some []
 | .d x::r=>match P1 r with
   | some l=>some (x::l)
   | none=>none
 | .loc _::_=>none
 | .ty _::_=>none
 | .tl _ _::_=>none
theorem SIs.data {H:Hp}:∀{xs:List DS}{ds:List PyData}{vs:List V},P1 xs=some ds->SIs K H M xs vs->DVs K H M.W ds vs
 | [],ds,vs,e,h=>by cases e;cases h;exact DVs.nil
 | .d x::r,ds,vs,e,⟨v,q,e2,h1,h2⟩=>by
   cases e3:P1 r with
   | none=>rw[P1,e3] at e;cases e
   | some es=>
     rw[P1,e3] at e;cases e
     subst e2
     exact DVs.cons h1 (SIs.data e3 h2)
 | .loc _::_,ds,vs,e,_=>by cases e
 | .ty _::_,ds,vs,e,_=>by cases e
 | .tl _ _::_,ds,vs,e,_=>by cases e
theorem SIs.length {H:Hp}:∀{xs:List DS}{vs:List V},SIs K H M xs vs->vs.length=xs.length
 | [],vs,h=>by cases h;rfl
 | _::r,vs,⟨v,q,e2,h1,h2⟩=>by subst e2;simp[SIs.length h2]
theorem mM (h:DA K tl ρ M fun xs M1=>∃ds,P1 xs=some ds/\ds.length<=sizeLine/\Q (.d (.tuple ds)) M1):DE K (oW tl) ρ M Q:=fun σ H QQ R k=>
 h σ H _ R fun vs H1 xs M1 o1 s1 t1 h1=>by
   obtain⟨ds,e,hz,q⟩:=h1
   have hd:=s1.data e
   refine⟨by rw[hd.length];exact hz,fun p hp=>?_⟩
   have g:Grow K M1.W M1.W H1 (upd H1 p (.tup vs)):=AR _ hp
   refine k _ _ (.d (.tuple ds)) M1 (o1.new hp) ?_ (t1.trans ⟨g⟩) q
   unfold SI DV
   exact⟨p,vs,rfl,.inl ⟨fun w=>w (o1.none hp),.inl AE⟩,hd.grow g⟩
theorem BA (h:DA K tl ρ M fun xs M1=>∃ds,P1 xs=some ds/\ds.length<=sizeLine/\Q (.d (.list ds)) M1):DE K (lK tl) ρ M Q:=fun σ H QQ R k=>
 h σ H _ R fun vs H1 xs M1 o1 s1 t1 h1=>by
   obtain⟨ds,e,hz,q⟩:=h1
   have hd:=s1.data e
   refine⟨by rw[hd.length];exact hz,fun p hp=>?_⟩
   have g:Grow K M1.W M1.W H1 (upd H1 p (.lst vs)):=AR _ hp
   refine k _ _ (.d (.list ds)) M1 (o1.new hp) ?_ (t1.trans ⟨g⟩) q
   unfold SI DV
   exact⟨p,vs,rfl,.inl ⟨fun w=>w (o1.none hp),.inl AE⟩,hd.grow g⟩
theorem II (h:DA K tl ρ M fun xs M1=>∃ds,P1 xs=some ds/\ds.length<=sizeLine/\∀p,M1 p=none->Q (.loc p) (M1.put p (.l ds))):DE K (lK tl) ρ M Q:=fun σ H QQ R k=>
 h σ H _ R fun vs H1 xs M1 o1 s1 t1 h1=>by
   obtain⟨ds,e,hz,q⟩:=h1
   have hd:=s1.data e
   refine⟨by rw[hd.length];exact hz,fun p hp=>?_⟩
   obtain⟨a,b⟩:=MX o1 hp hd
   exact k _ _ (.loc p) _ a rfl (t1.trans b) (q p (o1.none hp))
theorem pH {r:List V->Hp->VK->Prop}(h:DA K tl ρ M fun xs M1=>DR K r xs M1 Q):DE K (tCB r tl) ρ M Q:=fun σ H QQ R k=>
 h σ H _ R fun vs H1 xs M1 o1 s1 t1 h1=>h1 H1 vs QQ o1 s1 fun w H2 z M2 o2 s2 t2 q=>k w H2 z M2 o2 s2 (t1.trans t2) q
structure FSp where
 pre:List DS->Own->Prop
 post:List DS->Own->DS->Own->Prop
def spD (K:Frg) (n:Nat) (S:FSp):Sp:=fun vs H Q _=>∃xs M,xs.length=n/\OA K H M/\SIs K H M xs vs/\S.pre xs M/\∀x M' v H',S.post xs M x M'->Step K M M' H H'->OA K H' M'->SI K H' M' x v->Q v H'
theorem gN {n:Nat}{S:FSp}:∀vs H Q E,spD K n S vs H Q E->vs.length=n:=fun vs H Q E ⟨xs,M,hl,_,h,_⟩=>by rw[h.length,hl]
theorem gQ {n:Nat}{S:FSp}{E:XK}(h:DA K tl ρ M fun xs M1=>xs.length=n/\S.pre xs M1/\∀x M',S.post xs M1 x M'->Q x M'):DE K (X5 (spD K n S) [] E tl) ρ M Q:=fun σ H QQ R k=>
 h σ H _ R fun vs H1 xs M1 o1 s1 t1 ⟨h0,h1,h2⟩=>by
   show spD K n S (vs++[]) H1 QQ E
   rw[b2Q]
   exact⟨xs,M1,h0,o1,s1,h1,fun x M' v H' p st oa si=>k v H' x M' oa si (t1.trans st) (h2 x M' p)⟩
theorem Q2 {T:String}{r:V->List V->Hp->VK->Prop}(h:DE K ta ρ M fun x M1=>DTy K T x M1/\DA K tl ρ M1 fun xs M2=>DM K r x xs M2 Q):DE K (tBM K T r ta tl) ρ M Q:=fun σ H QQ R k=>
 h σ H _ R fun v H1 x M1 o1 s1 t1 ⟨h0,h1⟩=>⟨h0 H1 v o1 s1,h1 σ H1 _ (R.step o1 t1) fun vs H2 xs M2 o2 s2 t2 h2=>h2 H2 v vs QQ o2 (s1.step t2) s2 fun w H3 z M3 o3 s3 t3 q=>k w H3 z M3 o3 s3 ((t1.trans t2).trans t3) q⟩
theorem gR {QP:Option Int->Own->Prop}(h:QP none M):DP K X7 ρ M QP:=fun σ H QQ R k=>k _ H M R.own Step.refl h
theorem gS {QP:Option Int->Own->Prop}(h:DE K ta ρ M fun x M1=>∃i,x = .d (.int i)/\QP (some i) M1):DP K (jR ta) ρ M QP:=fun σ H QQ R k=>
 h σ H _ R fun v H1 x M1 o1 s1 t1 h1=>by
   obtain⟨i,rfl,q⟩:=h1
   unfold SI DV at s1
   exact⟨i,s1,k _ H1 M1 o1 t1 q⟩
theorem pI {r:V->Option Int->Option Int->Hp->VK->Prop}{tl th:TO}(h:DE K ta ρ M fun x M1=>DP K tl ρ M1 fun lo M2=>DP K th ρ M2 fun hi M3=>DSl K r x lo hi M3 Q):DE K (tSl r ta tl th) ρ M Q:=fun σ H QQ R k=>
 h σ H _ R fun v H1 x M1 o1 s1 t1 h1=>h1 σ H1 _ (R.step o1 t1) fun lo H2 M2 o2 t2 h2=>h2 σ H2 _ (R.step o2 (t1.trans t2)) fun hi H3 M3 o3 t3 h3=>h3 H3 v QQ o3 (s1.step (t2.trans t3)) fun w H4 z M4 o4 s4 t4 q=>k w H4 z M4 o4 s4 (((t1.trans t2).trans t3).trans t4) q
variable {D:EndsD}{t u:TS}
theorem XC (h:D.nx ρ M):DSt K jH ρ M D:=fun σ H E R k1 _ _ _=>k1 ρ M σ H R Step.refl h
theorem gT (h:D.ct ρ M):DSt K jI ρ M D:=fun σ H E R _ _ _ k=>k ρ M σ H R Step.refl h
theorem bM (h:DE K ta ρ M D.rt):DSt K (oK ta) ρ M D:=fun σ H E R _ k2 _ _=>h σ H E.rt R fun v H' x M' a b c q=>k2 v H' x M' a b c q
theorem XD (h:DE K ta ρ M fun _ M1=>D.nx ρ M1):DSt K (jJ ta) ρ M D:=fun σ H E R k1 _ _ _=>h σ H _ R fun v H' x M' a b c q=>k1 ρ M' σ H' (R.step a c) c q
theorem bN {i:Nat}(h:DE K ta ρ M fun x M1=>D.nx (ρ.set i (some x)) M1):DSt K (fU ta (N5 i)) ρ M D:=fun σ H E R k1 _ _ _=>
 h σ H _ R fun v H' x M' a b c q=>k1 _ M' _ H' ((R.step a c).set b i) c q
theorem XE {i:Nat}(h:DE K ta ρ M fun x M1=>D.nx (ρ.set i (some x)) M1):DSt K (fun D σ H=>ta σ H fun v H'=>D.nx (σ.set i (some v)) H') ρ M D:=fun σ H E R k1 _ _ _=>
 h σ H _ R fun v H' x M' a b c q=>k1 _ M' _ H' ((R.step a c).set b i) c q
theorem bO (h:DSt K t ρ M { D with nx:=fun ρ1 M1=>DSt K u ρ1 M1 D }):DSt K (kY t u) ρ M D:=fun σ H E R k1 k2 k3 k4=>by
 refine h σ H { E with nx:=fun σ' H'=>u E σ' H' } R (fun ρ1 M1 σ1 H1 R1 t1 q=>?_) k2 k3 k4
 exact q σ1 H1 E R1 (fun a b c d e f g=>k1 a b c d e (t1.trans f) g) (fun a b c d e f g q=>k2 a b c d e f (t1.trans g) q) (fun a b c d e f g=>k3 a b c d e (t1.trans f) g) (fun a b c d e f g=>k4 a b c d e (t1.trans f) g)
theorem pJ (h:DT K tA ρ M fun c M1=>if c=true then DSt K t ρ M1 D else DSt K u ρ M1 D):DSt K (oM tA t u) ρ M D:=fun σ H E R k1 k2 k3 k4=>
 h σ H _ R fun c H1 M1 o1 t1 h1=>by
   have go:∀{w:TS},DSt K w ρ M1 D->w E σ H1:=fun q=>q σ H1 E (R.step o1 t1) (fun a b c d e f g=>k1 a b c d e (t1.trans f) g) (fun a b c d e f g q=>k2 a b c d e f (t1.trans g) q) (fun a b c d e f g=>k3 a b c d e (t1.trans f) g) (fun a b c d e f g=>k4 a b c d e (t1.trans f) g)
   cases c with
   | true=>rw[if_pos rfl] at h1 ⊢;exact go h1
   | false=>rw[if_neg nft] at h1 ⊢;exact go h1
theorem gU {D':EndsD}(h:DSt K t ρ M D) (h1:∀ρ' M',D.nx ρ' M'->D'.nx ρ' M') (h2:∀x M',D.rt x M'->D'.rt x M') (h3:∀ρ' M',D.bk ρ' M'->D'.bk ρ' M') (h4:∀ρ' M',D.ct ρ' M'->D'.ct ρ' M'):DSt K t ρ M D':=
 fun σ H E R k1 k2 k3 k4=>h σ H E R (fun a b c d e f g=>k1 a b c d e f (h1 _ _ g)) (fun a b c d e f g q=>k2 a b c d e f g (h2 _ _ q)) (fun a b c d e f g=>k3 a b c d e f (h3 _ _ g)) (fun a b c d e f g=>k4 a b c d e f (h4 _ _ g))
theorem Q3 {i:Nat}{a:Addr}{ds:List PyData}(e:ρ[i]?=some (some (.loc a))) (m:M a=some (.l ds)) (h:DSt K t (ρ.set i (some (.d (.list ds)))) (M.del a) D):DSt K t ρ M D:=fun σ H E R k1 k2 k3 k4=>by
 have hs:(M.del a).Sub M:=fun b o q=>by
   unfold Own.del at q
   by_cases hb:b=a
   · rw[if_pos hb] at q;cases q
   · rw[if_neg hb] at q;exact q
 have st:Step K M (M.del a) H H:=⟨B1 hs⟩
 obtain⟨v,e1,e2⟩:=R.slot i _ e
 obtain⟨vs,q1,q2⟩:=R.own a _ m
 have R1:Rel K (M.del a) ρ σ H:=R.step (R.own.sub hs) st
 have R2:=R1.set (x:=.d (.list ds)) (v:=v) (by
   unfold SI DV
   refine⟨a,vs,e2,.inl ⟨fun w=>w (by unfold Own.del;rw[if_pos rfl]),.inl q1⟩,q2.grow (B1 hs)⟩) i
 have e3:σ.set i (some v)=σ:=by
   apply b2V
   intro j
   rw[List.getElem?_set]
   by_cases hij:i=j
   · subst hij
     rw[if_pos rfl,e1]
     split
     · rfl
     · rename_i hl
       rw[a5J (by omega)] at e1;cases e1
   · rw[if_neg hij]
 rw[e3] at R2
 exact h σ H E R2 (fun a b c d e f g=>k1 a b c d e (st.trans f) g) (fun a b c d e f g q=>k2 a b c d e f (st.trans g) q) (fun a b c d e f g=>k3 a b c d e (st.trans f) g) (fun a b c d e f g=>k4 a b c d e (st.trans f) g)
end
end DL
namespace DL
open PySem PySem.Spec L2
section
variable {K:Frg}{ρ:List (Option DS)}{M:Own}{Q:DS->Own->Prop}{H:Hp}
theorem BB {i:Int}{v:V}(h:SI K H M (.d (.int i)) v):v = .int i:=by unfold SI DV at h;exact h
theorem jY {i:Bool}{v:V}(h:SI K H M (.d (.bool i)) v):v = .bl i:=by unfold SI DV at h;exact h
theorem BC {i:Str}{v:V}(h:SI K H M (.d (.str i)) v):v = .str i:=by unfold SI DV at h;exact h
theorem mN {v:V}(h:SI K H M (.d .none) v):v = .non:=by unfold SI DV at h;exact h
theorem C7 {i:Int}:SI K H M (.d (.int i)) (.int i):=by unfold SI DV;rfl
theorem AT {i:Bool}:SI K H M (.d (.bool i)) (.bl i):=by unfold SI DV;rfl
theorem FI {i:Str}:SI K H M (.d (.str i)) (.str i):=by unfold SI DV;rfl
theorem pK {g:Int->Int->Int}{i j:Int}(q:Q (.d (.int (g i j))) M):D2 K (rI0 fun i j=>.int (g i j)) (.d (.int i)) (.d (.int j)) M Q:=fun H v u QQ oa s1 s2 k=>by
 rw[BB s1,BB s2];exact⟨i,j,rfl,rfl,k _ H _ M oa C7 Step.refl q⟩
theorem pL {g:Int->Int->Bool}{i j:Int}(q:Q (.d (.bool (g i j))) M):D2 K (rI0 fun i j=>.bl (g i j)) (.d (.int i)) (.d (.int j)) M Q:=fun H v u QQ oa s1 s2 k=>by
 rw[BB s1,BB s2];exact⟨i,j,rfl,rfl,k _ H _ M oa AT Step.refl q⟩
theorem XF {C:Int->Int->Prop}{g:Int->Int->Int}{i j:Int}(c:C i j) (q:Q (.d (.int (g i j))) M):D2 K (rI C fun i j=>.int (g i j)) (.d (.int i)) (.d (.int j)) M Q:=fun H v u QQ oa s1 s2 k=>by
 rw[BB s1,BB s2];exact⟨i,j,rfl,rfl,c,k _ H _ M oa C7 Step.refl q⟩
theorem qN {g:Int->Int}{i:Int}(q:Q (.d (.int (g i))) M):D1 K (rU fun i=>.int (g i)) (.d (.int i)) M Q:=fun H v QQ oa s1 k=>by
 rw[BB s1];exact⟨i,rfl,k _ H _ M oa C7 Step.refl q⟩
theorem gV {i j:Str}(hz:i.length+j.length<=sizeLine) (q:Q (.d (.str (i++j))) M) :
   D2 K (fun x y H Q=>∃i j,x = .str i/\y = .str j/\i.length+j.length<=sizeLine/\Q (.str (i++j)) H) (.d (.str i)) (.d (.str j)) M Q:=fun H v u QQ oa s1 s2 k=>by
 rw[BC s1,BC s2];exact⟨i,j,rfl,rfl,hz,k _ H _ M oa FI Step.refl q⟩
theorem AU {neg:Bool}{a b:PyData}(ha:zH a=true) (hb:zH b=true) (q:Q (.d (.bool (if neg then !a0Z a b else a0Z a b))) M):D2 K (YV K neg) (.d a) (.d b) M Q:=fun H v u QQ oa s1 s2 k=>
 ⟨M.W,a,b,s1,s2,ha,hb,k _ H _ M oa AT Step.refl q⟩
theorem TK (x:Str) (ys:List Str):inV (.str x) (ys.map V.str)=decide (x∈ys):=by
 unfold inV
 rw[a2W,a8Q,decide_eq_true_iff]
 constructor
 · rintro⟨y,hy,e⟩
   obtain⟨z,hz,rfl⟩:=zL.mp hy
   have:z=x:=by simpa [eqV] using e
   subst this;exact hz
 · intro h
   exact⟨.str x,zL.mpr ⟨x,h,rfl⟩,by simp[eqV]⟩
theorem mO {neg:Bool}{x:Str}{ys:List Str}(q:Q (.d (.bool (if neg then !decide (x∈ys) else decide (x∈ys)))) M):D2 K (rIn K neg) (.d (.str x)) (.d (.list (ys.map .str))) M Q:=fun H v u QQ oa s1 s2 k=>by
 rw[BC s1]
 unfold SI DV at s2
 obtain⟨a,vs,rfl,hl,hd⟩:=s2
 have e:=JZ hd
 subst e
 exact⟨a,_,rfl,.inl hl.sq,rfl,by simp[IT],k _ H (.d (.bool (if neg then !decide (x∈ys) else decide (x∈ys)))) M oa (by rw[TK];exact AT) Step.refl q⟩
theorem VW {W:Addr->Prop}{ds:List PyData}{vs:List V}{i:Int}{d:PyData}(h:DVs K H W ds vs) (e:atI ds i=some d):∃v,atI vs i=some v/\DV K H W d v:=by
 unfold atI at e ⊢
 rw[h.length]
 cases hx:ixN ds.length i with
 | none=>rw[hx] at e;cases e
 | some j=>rw[hx] at e;simpa using h.get' (by simpa using e)
theorem mP {ds:List PyData}{i:Int}{d:PyData}(e:atI ds i=some d) (q:Q (.d d) M):D2 K (gA K) (.d (.list ds)) (.d (.int i)) M Q:=fun H v u QQ oa s1 s2 k=>by
 rw[BB s2]
 unfold SI DV at s1
 obtain⟨a,vs,rfl,hl,hd⟩:=s1
 obtain⟨w,h1,h2⟩:=VW hd e
 exact⟨a,vs,i,w,rfl,rfl,hl.sq,h1,k _ H (.d d) M oa h2 Step.refl q⟩
theorem mQ {ds:List PyData}{i:Int}{d:PyData}(e:atI ds i=some d) (q:Q (.d d) M):D2 K (lQ K) (.d (.tuple ds)) (.d (.int i)) M Q:=fun H v u QQ oa s1 s2 k=>by
 rw[BB s2]
 unfold SI DV at s1
 obtain⟨a,vs,rfl,hl,hd⟩:=s1
 obtain⟨w,h1,h2⟩:=VW hd e
 exact⟨a,vs,i,w,rfl,rfl,hl.sq,h1,k _ H (.d d) M oa h2 Step.refl q⟩
theorem mR {a:Addr}{ds:List PyData}{i:Int}{d:PyData}(m:M a=some (.l ds)) (e:atI ds i=some d) (q:Q (.d d) M):D2 K (gA K) (.loc a) (.d (.int i)) M Q:=fun H v u QQ oa s1 s2 k=>by
 rw[BB s2]
 unfold SI at s1
 subst s1
 obtain⟨vs,h0,hd⟩:=oa a _ m
 obtain⟨w,h1,h2⟩:=VW hd e
 exact⟨a,vs,i,w,rfl,rfl,SqL.of h0,h1,k _ H (.d d) M oa h2 Step.refl q⟩
theorem mS {z:Str}{i:Int}{c:Nat}(hz:z.length<=sizeLine) (e:atI z.cps.toList i=some c) (q:Q (.d (.str ⟨#[c]⟩)) M):D2 K lR (.d (.str z)) (.d (.int i)) M Q:=fun H v u QQ oa s1 s2 k=>by
 rw[BB s2,BC s1]
 exact⟨z,i,c,rfl,rfl,hz,e,k _ H _ M oa FI Step.refl q⟩
theorem F7 {r r':R2}{x y:DS}(h:D2 K r x y M Q):D2 K (fun x y H Q=>r x y H Q∨r' x y H Q) x y M Q:=fun H v u QQ oa s1 s2 k=>.inl (h H v u QQ oa s1 s2 k)
theorem F8 {r r':R2}{x y:DS}(h:D2 K r' x y M Q):D2 K (fun x y H Q=>r x y H Q∨r' x y H Q) x y M Q:=fun H v u QQ oa s1 s2 k=>.inr (h H v u QQ oa s1 s2 k)
theorem mT {as bs:List PyData}(hz:as.length+bs.length<=sizeLine) (q:Q (.d (.list (as++bs))) M):D2 K (fun x y H Q=>∃a b xs ys,x = .ref a/\y = .ref b/\SqL K H a xs/\SqL K H b ys/\xs.length+ys.length<=sizeLine/\∀p,H p=none->Q (.ref p) (upd H p (.lst (xs++ys)))) (.d (.list as)) (.d (.list bs)) M Q:=fun H v u QQ oa s1 s2 k=>by
 unfold SI DV at s1 s2
 obtain⟨a,vs,rfl,hl,hd⟩:=s1
 obtain⟨b,us,rfl,hl2,hd2⟩:=s2
 refine⟨a,b,vs,us,rfl,rfl,hl.sq,hl2.sq,by rw[hd.length,hd2.length];exact hz,fun p hp=>?_⟩
 have g:Grow K M.W M.W H (upd H p (.lst (vs++us))):=AR _ hp
 refine k _ _ (.d (.list (as++bs))) M (oa.new hp) ?_ ⟨g⟩ q
 unfold SI DV
 exact⟨p,_,rfl,.inl ⟨fun w=>w (oa.none hp),.inl AE⟩,(hd.append hd2).grow g⟩
theorem gW {ds:List PyData}(q:Q (.d (.int ds.length)) M):DR K (fun xs H Q=>∃x n,xs=[x]/\fW K x H n/\Q (.int (n:Nat)) H) [.d (.list ds)] M Q:=fun H vs QQ oa s k=>by
 obtain⟨v,r,rfl,h1,h2⟩:=s
 cases h2
 unfold SI DV at h1
 obtain⟨a,vs,rfl,hl,hd⟩:=h1
 exact⟨_,_,rfl,.inl ⟨vs,hl.sq,rfl⟩,k _ H (.d (.int ds.length)) M oa (by rw[hd.length];exact C7) Step.refl q⟩
theorem gX {ds:List PyData}(q:Q (.d (.int ds.length)) M):DR K (fun xs H Q=>∃x n,xs=[x]/\fW K x H n/\Q (.int (n:Nat)) H) [.d (.tuple ds)] M Q:=fun H vs QQ oa s k=>by
 obtain⟨v,r,rfl,h1,h2⟩:=s
 cases h2
 unfold SI DV at h1
 obtain⟨a,vs,rfl,hl,hd⟩:=h1
 exact⟨_,_,rfl,.inr ⟨vs,hl.sq,rfl⟩,k _ H (.d (.int ds.length)) M oa (by rw[hd.length];exact C7) Step.refl q⟩
theorem mU {bs:List Bool}(q:Q (.d (.bool (bs.all id))) M):DR K (fun xs H Q=>∃(p:Addr) (bs:List Bool),xs=[.ref p]/\SqL K H p (bs.map V.bl)/\Q (.bl (bs.all id)) H) [.d (.list (bs.map .bool))] M Q:=fun H vs QQ oa s k=>by
 obtain⟨v,r,rfl,h1,h2⟩:=s
 cases h2
 unfold SI DV at h1
 obtain⟨a,vs,rfl,hl,hd⟩:=h1
 rw[L1 hd] at hl
 exact⟨a,bs,rfl,hl.sq,k _ H _ M oa AT Step.refl q⟩
theorem mV {bs:List Bool}(q:Q (.d (.bool (bs.any id))) M):DR K (fun xs H Q=>∃(p:Addr) (bs:List Bool),xs=[.ref p]/\SqL K H p (bs.map V.bl)/\Q (.bl (bs.any id)) H) [.d (.list (bs.map .bool))] M Q:=fun H vs QQ oa s k=>by
 obtain⟨v,r,rfl,h1,h2⟩:=s
 cases h2
 unfold SI DV at h1
 obtain⟨a,vs,rfl,hl,hd⟩:=h1
 rw[L1 hd] at hl
 exact⟨a,bs,rfl,hl.sq,k _ H _ M oa AT Step.refl q⟩
theorem gY {z:Str}:DTy K "str" (.d (.str z)) M:=fun H v _ s=>by rw[BC s];exact rfl
theorem K0 {a:Addr}{ds:List PyData}(m:M a=some (.l ds)):DTy K "list" (.loc a) M:=fun H v oa s=>by
 unfold SI at s
 subst s
 obtain⟨vs,h0,hd⟩:=oa a _ m
 exact .inl ⟨rfl,vs,SqL.of h0⟩
theorem FJ {a:Addr}{ds:List PyData}{d:PyData}(m:M a=some (.l ds)) (hz:ds.length < sizeLine) (q:Q (.d .none) (M.put a (.l (ds++[d])))):DM K R6 (.loc a) [.d d] M Q:=fun H v vs QQ oa s1 s2 k=>by
 obtain⟨u,r,rfl,h1,h2⟩:=s2
 cases h2
 unfold SI at s1
 subst s1
 obtain⟨us,h0,hd⟩:=oa a _ m
 obtain⟨x,y⟩:=FH oa m (hd.append (DVs.cons h1 DVs.nil))
 exact⟨a,us,u,rfl,rfl,h0,by rw[hd.length];exact hz,k _ _ (.d .none) _ x (by unfold SI DV;rfl) y q⟩
theorem gZ {z:Str}{lo hi:Option Int}(hz:z.length<=sizeLine) (q:Q (.d (.str (a0W z lo hi))) M):DSl K m6 (.d (.str z)) lo hi M Q:=fun H v QQ oa s1 k=>by
 rw[BC s1]
 exact⟨z,rfl,hz,k _ H _ M oa FI Step.refl q⟩
def CT (xs:List PyData) (lo hi:Option Int):List PyData:=(xs.drop (HT.sIx xs.length 0 lo)).take (HT.sIx xs.length xs.length hi - HT.sIx xs.length 0 lo)
theorem bP {ds:List PyData}{lo hi:Option Int}(q:Q (.d (.list (CT ds lo hi))) M):DSl K (lU K) (.d (.list ds)) lo hi M Q:=fun H v QQ oa s1 k=>by
 unfold SI DV at s1
 obtain⟨a,vs,rfl,hl,hd⟩:=s1
 refine⟨a,vs,rfl,hl.sq,fun p hp=>?_⟩
 have g:Grow K M.W M.W H (upd H p (.lst (JJ vs lo hi))):=AR _ hp
 have key:DVs K H M.W (CT ds lo hi) (JJ vs lo hi):=by
   unfold CT JJ
   rw[hd.length]
   exact(hd.drop _).take _
 refine k _ _ (.d (.list (CT ds lo hi))) M (oa.new hp) ?_ ⟨g⟩ q
 unfold SI DV
 exact⟨p,_,rfl,.inl ⟨fun w=>w (oa.none hp),.inl AE⟩,key.grow g⟩
end
end DL
namespace DL
open PySem PySem.Spec L2
structure WD (K:Frg) (J:It) (ds:List PyData) (H1:Hp) (M1:Own):Prop where
 go:∀(i:Nat) H' M',i < ds.length->OA K H' M'->Step K M1 M' H1 H'->J.go i H'
 stop:∀H' M',OA K H' M'->Step K M1 M' H1 H'->J.stop ds.length H'
 yld:∀(i:Nat) H' M' x H2,OA K H' M'->Step K M1 M' H1 H'->i < ds.length->J.yld i H' x H2->OA K H2 M'/\Step K M' M' H' H2/\∃d,ds[i]?=some d/\DV K H2 M'.W d x
def DI (K:Frg) (wi:TI) (ρ:List (Option DS)) (M:Own) (Q:List PyData->Own->Prop):Prop:=
 ∀(σ:St) (H:Hp) (R:It->Hp->Prop),Rel K M ρ σ H->(∀J ds H1 M1,OA K H1 M1->Step K M M1 H H1->WD K J ds H1 M1->Q ds M1->R J H1)->wi σ H R
def DG (K:Frg) (g:TG) (d:PyData) (ρ:List (Option DS)) (M:Own) (P:List (Option DS)->Own->Prop):Prop:=
 ∀(σ:St) (H:Hp) (v:V) (QQ:St->Hp->Prop),Rel K M ρ σ H->DV K H M.W d v->(∀ρ' M' σ' H',Rel K M' ρ' σ' H'->Step K M M' H H'->P ρ' M'->QQ σ' H')->g v σ H QQ
def HK (g:TG) (T:List Nat):Prop:=∀(v:V) (σ:St) (H:Hp) (QQ:St->Hp->Prop),g v σ H (fun σ2 H2=>(∀i,i∉T->σ2[i]?=σ[i]?)->QQ σ2 H2)->g v σ H QQ
section
variable {K:Frg}{ρ:List (Option DS)}{M:Own}{D:EndsD}{tl:TE}{tb:TS}{i:Nat}{QI:List PyData->Own->Prop}{g:TG}{wi:TI}
def CD (lo:Int) (n:Nat):List PyData:=(a0J n).map fun(i:Nat)=>.int (lo+i)
theorem G8 {ta:TA}(h:DA K ta ρ M fun xs M1=>∃j:Int,xs=[.d (.int j)]/\-(2 ^ 62)<=j/\j < 2 ^ 62/\QI (CD 0 j.toNat) M1):DI K (jL ta) ρ M QI:=fun σ H R Rl k=>
 h σ H _ Rl fun vs H1 xs M1 o1 s1 t1 ⟨j,e,h1,h2,q⟩=>by
   subst e
   obtain⟨v,r,rfl,h3,h4⟩:=s1
   cases h4
   rw[show v = .int j by unfold SI DV at h3;exact h3]
   have hlen:(CD 0 j.toNat).length=j.toNat:=by simp[CD]
   refine⟨j,rfl,h1,h2,k _ (CD 0 j.toNat) H1 M1 o1 t1 ⟨fun i H' M' hi oa st=>?_,fun H' M' oa st=>?_,fun i H' M' x H2 oa st hi y=>?_⟩ q⟩
   · show i < j.toNat;rw[← hlen];exact hi
   · show j.toNat<=(CD 0 j.toNat).length;rw[hlen];exact zR _
   · obtain⟨rfl,rfl⟩:=y
     refine⟨oa,Step.refl,.int (0+i),?_,by unfold DV;rfl⟩
     unfold CD
     rw[zF]
     rw[hlen] at hi
     simp[hi]
theorem h7 {d:PyData}{P:List (Option DS)->Own->Prop}(h:P (ρ.set i (some (.d d))) M):DG K (N5 i) d ρ M P:=fun σ H v QQ R dv k=>k _ M _ H (R.set (x:=.d d) dv i) Step.refl h
theorem AN (i:Nat):HK (N5 i) [i]:=fun v σ H QQ h=>h fun j hj=>by
 rw[b3W (by rintro rfl;exact hj (by simp))]
abbrev EndsD.turn (D:EndsD) (P:List (Option DS)->Own->Prop):EndsD:={ nx:=P,ct:=P,bk:=D.nx,rt:=D.rt }
theorem G9 (h:DI K wi ρ M fun ds M1=>∃P:Nat->List (Option DS)->Own->Prop,P 0 ρ M1/\(∀k d ρ' M',ds[k]?=some d->P k ρ' M'->DG K g d ρ' M' fun ρ2 M2=>DSt K tb ρ2 M2 (D.turn (P (k+1))))/\∀ρ' M',P ds.length ρ' M'->D.nx ρ' M') :
   DSt K (oQ wi g tb) ρ M D:=fun σ H E R k1 k2 k3 k4=>
 h σ H _ R fun J ds H1 M1 o1 t1 wd ⟨P,p0,pt,pe⟩=>by
   refine⟨fun i m σ' H'=>m=ds.length - i/\i<=ds.length/\∃ρ' M',Rel K M' ρ' σ' H'/\Step K M1 M' H1 H'/\P i ρ' M',⟨_,rfl,xT _,ρ,M1,R.step o1 t1,Step.refl,p0⟩,?_⟩
   rintro i m σ' H' ⟨rfl,hi,ρ',M',R',st,p⟩
   by_cases hlt:i < ds.length
   · refine .inr ⟨wd.go i H' M' hlt R'.own st,fun σ2 H2=>∃ρ2 M2,Rel K M2 ρ2 σ2 H2/\Step K M1 M2 H1 H2/\P (i+1) ρ2 M2,fun σ2 H2 ⟨ρ2,M2,a,b,c⟩=>⟨ds.length - (i+1),by omega,rfl,hlt,ρ2,M2,a,b,c⟩,fun x H2 y=>?_⟩
     obtain⟨oa2,st2,d,e1,e2⟩:=wd.yld i H' M' x H2 R'.own st hlt y
     refine pt i d ρ' M' e1 p σ' H2 x _ (R'.step oa2 st2) e2 fun ρ3 M3 σ3 H3 R3 st3 b3=>?_
     have s3:=(st.trans st2).trans st3
     exact b3 σ3 H3 _ R3 (fun r m s hh R4 st4 q=>⟨r,m,R4,s3.trans st4,q⟩) (fun w hh x m a b c q=>k2 w hh x m a b (t1.trans (s3.trans c)) q)
       (fun r m s hh R4 st4 q=>k1 r m s hh R4 (t1.trans (s3.trans st4)) q) (fun r m s hh R4 st4 q=>⟨r,m,R4,s3.trans st4,q⟩)
   · have e:i=ds.length:=by omega
     subst e
     exact .inl ⟨wd.stop H' M' R'.own st,k1 ρ' M' σ' H' R' (t1.trans st) (pe ρ' M' p)⟩
def EB (fr:List (Option Nat)) (ρ:List (Option DS)):List (Option DS):=fr.map fun o=>o.bind fun j=>(ρ[j]?).join
theorem CW {fr:List (Option Nat)}{α:Type}{ρ:List (Option α)}{i:Nat}{x:α}(h:(fr.map fun o=>o.bind fun j=>(ρ[j]?).join)[i]?=some (some x)):∃j,fr[i]?=some (some j)/\ρ[j]?=some (some x):=by
 rw[zF] at h
 cases hf:fr[i]? with
 | none=>rw[hf] at h;cases h
 | some o=>
   rw[hf] at h
   cases o with
   | none=>cases h
   | some j=>
     refine⟨j,rfl,?_⟩
     have e2:((ρ[j]?).join)=some x:=Option.some.inj h
     cases hs:ρ[j]? with
     | none=>rw[hs] at e2;cases e2
     | some q=>rw[hs] at e2;cases q with
       | none=>cases e2
       | some v'=>cases e2;rfl
theorem Rel.capt {fr:List (Option Nat)}{σ:St}{H:Hp}(R:Rel K M ρ σ H):Rel K M (EB fr ρ) (L2.capt fr σ) H:=by
 refine⟨R.own,by unfold EB L2.capt;rw[zX,zX],fun i x e=>?_⟩
 obtain⟨j,e1,e2⟩:=CW e
 obtain⟨v,h1,h2⟩:=R.slot j x e2
 refine⟨v,?_,h2⟩
 unfold L2.capt
 rw[zF,e1]
 simp[h1]
theorem RJ {fr:List (Option Nat)}{tt:TT}{te:TE}{T:List Nat}{Q:DS->Own->Prop}(ho:HK g T) (hT:∀i∈T,∀j,fr[i]?≠some (some j))
   (h:DI K wi ρ M fun ds M1=>ds.length < sizeLine/\∀D,M1 D=none->∃P:Nat->List PyData->Own->Prop,P 0 [] (M1.put D (.l []))/\(∀k acc M',P k acc M'->M' D=some (.l acc)/\acc.length<=k) /\
     (∀k d acc M',ds[k]?=some d->P k acc M'->DG K g d (EB fr ρ) M' fun ρ2 M2=>DT K tt ρ2 M2 fun c M3=>if c=true then DE K te ρ2 M3 fun y M4=>∃r,y = .d r/\M4 D=some (.l acc)/\P (k+1) (acc++[r]) (M4.put D (.l (acc++[r]))) else P (k+1) acc M3) /\
     ∀acc M',P ds.length acc M'->Q (.d (.list acc)) (M'.del D)) :
   DE K (LQ fr wi g tt te) ρ M Q:=fun σ H QQ R k=>
 h σ H _ R fun J ds H1 M1 o1 t1 wd ⟨hsz,hq⟩=>by
   intro A hA
   obtain⟨P,p0,pa,pt,pe⟩:=hq A (o1.none hA)
   obtain⟨oA,sA⟩:=MX o1 hA (DVs.nil (K:=K) (H:=H1) (W:=M1.W))
   refine⟨fun i m ys H2=>m=ds.length - i/\i<=ds.length/\H2 A=some (.lst ys)/\∃acc M',OA K H2 M'/\Step K M1 M' H1 H2/\P i acc M',⟨_,rfl,xT _,AE,[],_,oA,sA,p0⟩,?_⟩
   rintro i m ys H2 ⟨rfl,hi,hys,acc,M',oa,st,p⟩
   refine⟨hys,?_⟩
   have hs0:∀{N:Own},(N.del A).Sub N:=fun {N} b o q=>by
     unfold Own.del at q
     by_cases hb:b=A
     · rw[if_pos hb] at q;cases q
     · rw[if_neg hb] at q;exact q
   by_cases hlt:i < ds.length
   · refine .inr ⟨wd.go i H2 M' hlt oa st,fun x H3 y=>?_⟩
     obtain⟨oa3,st3,d,e1,e2⟩:=wd.yld i H2 M' x H3 oa st hlt y
     have Rc:Rel K M' (EB fr ρ) (L2.capt fr σ) H3:=((R.step o1 t1).step oa3 (st.trans st3)).capt
     refine ho _ _ _ _ (pt i d acc M' e1 p (L2.capt fr σ) H3 x _ Rc e2 fun ρ3 M3 σ3 H4 R3 st4 b3 hext=>⟨fun i' v' hv'=>?_,?_⟩)
     · obtain⟨j,f1,f2⟩:=CW hv'
       rw[hext i' fun hm=>hT i' hm j f1]
       exact hv'
     · refine b3 σ3 H4 _ R3 fun c H5 M5 o5 st5 h5=>?_
       have sx:=((st.trans st3).trans st4).trans st5
       cases c with
       | false=>
         rw[if_neg nft] at h5 ⊢
         obtain⟨hm,_⟩:=pa _ _ _ h5
         obtain⟨vs,q1,q2⟩:=o5 A _ hm
         exact⟨vs,ds.length - (i+1),by omega,rfl,hlt,q1,acc,M5,o5,sx,h5⟩
       | true=>
         rw[if_pos rfl] at h5 ⊢
         refine h5 σ3 H5 _ (R3.step o5 st5) fun y H6 z M6 o6 s6 st6 h6=>?_
         obtain⟨r,rfl,hm,p'⟩:=h6
         obtain⟨vs,q1,q2⟩:=o6 A _ hm
         obtain⟨w1,w2⟩:=FH o6 hm (q2.append (DVs.cons s6 DVs.nil))
         have hlen:acc.length<=i:=(pa _ _ _ p).2
         exact⟨vs,q1,by rw[q2.length];omega,ds.length - (i+1),by omega,rfl,hlt,AE,_,_,w1,(sx.trans st6).trans w2,p'⟩
   · have e:i=ds.length:=by omega
     subst e
     refine .inl ⟨wd.stop H2 M' oa st,?_⟩
     obtain⟨hm,_⟩:=pa _ _ _ p
     obtain⟨vs,q1,q2⟩:=oa A _ hm
     have hst:Step K M' (M'.del A) H2 H2:=⟨B1 hs0⟩
     refine k _ H2 (.d (.list acc)) (M'.del A) (oa.sub hs0) ?_ ((t1.trans st).trans hst) (pe acc M' p)
     unfold SI DV
     exact⟨A,vs,rfl,.inl ⟨fun w=>w (by unfold Own.del;rw[if_pos rfl]),.inl q1⟩,q2.grow (B1 hs0)⟩
theorem AF {fr:List (Option Nat)}{tt:TT}{te:TE}{T:List Nat}{Q:DS->Own->Prop}(ho:HK g T) (hT:∀i∈T,∀j,fr[i]?≠some (some j))
   (h:DI K wi ρ M fun ds M1=>ds.length < sizeLine/\∃(c:PyData->Bool) (f:PyData->PyData),(∀d∈ds,∀M',DG K g d (EB fr ρ) M' fun ρ2 M2=>M2=M'/\DT K tt ρ2 M2 fun b M3=>M3=M'/\b=c d/\(c d=true->DE K te ρ2 M3 fun y M4=>y = .d (f d)/\M4=M'))/\Q (.d (.list ((ds.filter c).map f))) M1) :
   DE K (LQ fr wi g tt te) ρ M Q:=by
 refine RJ ho hT fun σ H R Rl k=>h σ H R Rl fun J ds H1 M1 o1 t1 wd q=>k J ds H1 M1 o1 t1 wd ?_
 obtain⟨hsz,c,f,he,q⟩:=q
 refine⟨hsz,fun A hA=>⟨fun k acc M'=>acc=((ds.take k).filter c).map f/\M'=M1.put A (.l acc),⟨by simp,rfl⟩,fun k acc M' ⟨e1,e2⟩=>⟨by rw[e2];exact zU,?_⟩,fun k d acc M' hd ⟨e1,e2⟩=>?_,fun acc M' ⟨e1,e2⟩=>?_⟩⟩
 · rw[e1,zX]
   exact zN (yJ _ _) (by rw[a2X];omega)
 · have hm:d∈ds:=yN hd
   intro σ H v QQ R dv kk
   refine he d hm M' σ H v QQ R dv fun ρ' M2 σ' H' R' st ⟨eM,q2⟩=>kk ρ' M2 σ' H' R' st fun σ2 H2 QQ2 R2 k2=>?_
   refine q2 σ2 H2 QQ2 R2 fun b H3 M3 o3 st3 ⟨eM3,eb,q3⟩=>k2 b H3 M3 o3 st3 ?_
   have ts:(ds.take (k+1)).filter c=(ds.take k).filter c++(if c d then [d] else []):=take_succ_filter c ds k d hd
   cases hb:c d with
   | false=>
     rw[hb] at eb
     subst eb
     refine L2.bH ⟨?_,by rw[eM3,e2]⟩
     rw[ts,hb,e1];simp
   | true=>
     rw[hb] at eb
     subst eb
     refine L2.YT ?_
     refine RI (q3 hb) fun y M4 ⟨ey,e4⟩=>⟨f d,ey,by rw[e4,e2];exact zU,?_,by rw[e4,e2,yI]⟩
     rw[ts,hb,e1];simp
 · rw[e2,yG hA,e1,a3X]
   exact q
end
def RK (N:List Str) (xs:List DS):List (Option DS):=xs.map some++a3Z (N.length - xs.length) none
section
variable {P:Program}{w:World}{K:Frg}{mg:Str->Option Value}{base:Heap}
theorem SIs.get {M:Own}{H:Hp}:∀{xs:List DS}{vs:List V}{i:Nat}{x:DS},SIs K H M xs vs->xs[i]?=some x->∃v,vs[i]?=some v/\SI K H M x v
 | [],_,_,_,_,e=>by simp at e
 | d::ds,vs,i,x,⟨v,r,e',h1,h2⟩,e=>by
   subst e'
   cases i with
   | zero=>simp at e;subst e;exact⟨v,rfl,h1⟩
   | succ i=>simpa using SIs.get h2 (by simpa using e)
theorem YW {M:Own}{H:Hp}{N:List Str}{xs:List DS}{vs:List V}(oa:OA K H M) (h:SIs K H M xs vs):Rel K M (RK N xs) (L2.start N vs) H:=by
 have hl:=h.length
 refine⟨oa,by unfold RK L2.start;simp[hl],fun i x e=>?_⟩
 unfold RK at e
 by_cases hi:i < xs.length
 · rw[yQ (by simpa using hi),zF] at e
   cases q:xs[i]? with
   | none=>rw[q] at e;cases e
   | some y=>
     rw[q] at e
     cases e
     obtain⟨v,h1,h2⟩:=h.get q
     refine⟨v,?_,h2⟩
     unfold L2.start
     rw[yQ (by rw[zX,hl];exact hi),zF,h1]
     rfl
 · rw[yP (by simpa using hi),List.getElem?_replicate] at e
   split at e <;> cases e
theorem fnD {x qual:Str}{st:Stmt}{f:Addr}{fd:FuncData}{N ps:List Str}{k:Nat}{S:FSp}(F:Fun K x qual st f fd) (Sc:FnScope N ps (AA st))
   (hbody:∀(cdv:Value) (A:Around) (outer:List Env) (s:Shared) (H:Hp) (E:XK),Room k (A.deeper (PyProof.Rows.envOfC qual (AA st) s.heap.objs.size f cdv)) ->
     ∃t,PSs (VN CX0 P w K mg base N qual (AA st) f cdv A outer s H E).nox (CC st) t/\∀xs M,xs.length=ps.length->S.pre xs M->DSt K t (RK N xs) M { nx:=fun _ M1=>∃M2:Own,M2.Sub M1/\S.post xs M (.d .none) M2,rt:=fun y M1=>∃M2:Own,M2.Sub M1/\S.post xs M y M2 }) :
   FnOk P w K mg base CX0 (k+1) f fd ps (spD K ps.length S):=by
 refine F.ok Sc gN fun cdv A outer s H vs Q E hr h=>?_
 obtain⟨t,ht,hq⟩:=hbody cdv A outer s H E hr
 obtain⟨xs,M,hl,oa,si,pre,post⟩:=h
 refine⟨t,ht,hq xs M hl pre (L2.start N vs) H _ (YW oa si) ?_ ?_ (fun _ _ _ _ _ _ z=>z.elim) (fun _ _ _ _ _ _ z=>z.elim)⟩
 · rintro ρ' M1 σ' H' R st ⟨M2,hs,p⟩
   exact post (.d .none) M2 .non H' p (st.trans ⟨B1 hs⟩) (R.own.sub hs) (by unfold SI DV;rfl)
 · rintro v H' y M1 o s1 st ⟨M2,hs,p⟩
   exact post y M2 v H' p (st.trans ⟨B1 hs⟩) (o.sub hs) (s1.sub hs)
end
end DL
namespace L2
open PySem PySem.Spec PyProof.Rows
section
variable {X:Cx}{tg:Expr}
def TL (K:Frg):R2:=fun x y H Q=>(rI0 fun i j=>.int (i+j)) x y H Q∨((∃i j,x = .str i/\y = .str j/\i.length+j.length<=sizeLine/\Q (.str (i++j)) H)∨jW K x y H Q)
theorem h8:OpR X (binaryOp .Add) (TL X.K):=lB.or (VL.or gK)
def YX (K:Frg):R2:=fun x y H Q=>gA K x y H Q∨(lQ K x y H Q∨lR x y H Q)
theorem mW:IxR X (YX X.K):=gB.or (lS.or lT)
def h9 (K:Frg):V->Option Int->Option Int->Hp->VK->Prop:=fun x lo hi H Q=>lU K x lo hi H Q∨m6 x lo hi H Q
theorem mX:SlR X (h9 X.K):=gC.or m7
def pM:R2:=fun x y H Q=>(rI0 fun i j=>.bl (decide (i < j))) x y H Q∨∃i j,x = .str i/\y = .str j/\Q (.bl (decide (i.cps.toList < j.cps.toList))) H
theorem bQ:OpR X (compareOp .Lt) pM:=oU.or YK
def hU (K:Frg):R2:=fun x y H Q=>(∃i j,x = .str i/\y = .str j/\Q (.bl (!(b0K j i 0 j.length 1).isEmpty)) H)∨rIn K false x y H Q
theorem mY:OpR X (compareOp .In) (hU X.K):=YL.or YQ
def RL (K:Frg):R2:=fun x y H Q=>(∃i j,x = .str i/\y = .str j/\Q (.bl (!(!(b0K j i 0 j.length 1).isEmpty))) H)∨rIn K true x y H Q
theorem YY:OpR X (compareOp .NotIn) (RL X.K):=QX.or R0
def hW (K:Frg) (tl:TE):TI:=fun σ H R=>tl σ H fun x H1=>(∃a,x = .ref a/\(∃xs,SqL K H1 a xs)/\R (Itl K a) H1)∨(∃a,x = .ref a/\(∃xs,SqT K H1 a xs)/\R (Itt K a) H1)∨∃y,x = .str y/\R (Its y) H1
theorem mZ {l:Expr}{tl:TE}(hl:PE X l tl):PI X tg l (hW X.K tl):=by
 intro pins s σ H R I h
 refine thn (hl pins s σ H _ I h) fun v s1 ⟨x,H1,I1,r1,q1⟩=>?_
 have fp:∀b∈[s1.heap.objs.size],JW X pins H1 b:=fun b hb=>by
   have e:b=s1.heap.objs.size:=by simpa using hb
   subst e
   exact I1.fpOk (zR _) (I1.hok.fresh (zR _))
 rcases q1 with ⟨a,e,⟨xs,hq⟩,q⟩ | ⟨a,e,⟨xs,hq⟩,q⟩ | ⟨y,e,q⟩
 · subst e
   cases r1
   obtain⟨its,rv,p,hz⟩:=I1.list hq
   refine wpAny_pyIter_list p.isList ?_
   exact⟨s1.heap.objs.size,[s1.heap.objs.size],_,_,H1,rfl,I1.kept (t':=s1.toks) fun b o e=>zW _ e,YH a _,⟨_,yZ _ rfl,rfl,rfl⟩,fp,q⟩
 · subst e
   cases r1
   obtain⟨its,rv,p,hz⟩:=I1.tuple hq
   refine wpAny_pyIter_tuple (show s1.heap.IsTuple a its.toArray from p) ?_
   exact⟨s1.heap.objs.size,[s1.heap.objs.size],_,_,H1,rfl,I1.kept (t':=s1.toks) fun b o e=>zW _ e,VH a _,⟨_,yZ _ rfl,rfl,rfl⟩,fp,q⟩
 · subst e
   obtain⟨t,rfl⟩:=r1
   cases ha:y.cps.all (· < 128)
   · exact wpAny_pyIter_wide ha ⟨s1.heap.objs.size,[s1.heap.objs.size],_,_,H1,rfl,I1.kept (t':=s1.toks) fun b o e=>zW _ e,
       TJ s1.heap.objs.size "str_iterator" y t (by decide) (fun A hA=>Walks.strWide hA _ y t) (fun _ _ _ _ _ st h=>wpAny_pyIter_striter_wide st h),⟨_,yZ _ rfl,rfl,rfl⟩,fp,q⟩
   · exact wpAny_pyIter_ascii ha ⟨s1.heap.objs.size,[s1.heap.objs.size],_,_,H1,rfl,I1.kept (t':=s1.toks) fun b o e=>zW _ e,
       TJ s1.heap.objs.size "str_ascii_iterator" y t (by decide) (fun A hA=>Walks.strAscii hA _ y t) (fun _ _ _ _ _ st h=>wpAny_pyIter_striter_ascii st h),⟨_,yZ _ rfl,rfl,rfl⟩,fp,q⟩
end
def bR:NameKind->Bool | .free=>true | _=>false
def bS:NameKind->Bool | .cell=>true | _=>false
def XG:NameKind->Bool | .local=>true | _=>false
def bT (osc:Scope) (ON:List Str) (scope:Scope) (NC:List Str) (fr:List (Option Nat)):Bool:=
 (match scope.kind with | .function=>true | _=>false)&&scope.names.all (fun y=>!bS y.2) &&
 scope.names.all (fun y=>!XG y.2||(match scope.names.lookup y.1 with | some .local=>true | _=>false)) &&
 scope.names.all (fun y=>!bR y.2||(match osc.names.lookup y.1 with | some .cell=>true | some .free=>true | _=>false)) &&
 fr.length==NC.length &&
 (a0J NC.length).all fun i=>match fr[i]?,NC[i]? with
   | some (some j),some x=>ON[j]?==some x&&(match scope.names.lookup x with | some .free=>true | _=>false)&&(match osc.names.lookup x with | some .cell=>true | some .free=>true | _=>false)
   | _,_=>true
theorem CSc.of {X:Cx}{scope:Scope}{NC:List Str}{fr:List (Option Nat)}{osc:Scope}{ON:List Str}(h:bT osc ON scope NC fr=true) (e:X.env.scope=osc) (eN:X.N=ON):CSc X scope NC fr:=by
 subst e eN
 unfold bT at h
 simp only[a1Z,b8V,List.mem_range,beq_iff_eq] at h
 obtain⟨⟨⟨⟨⟨h1,h2⟩,h3⟩,h4⟩,h5⟩,h6⟩:=h
 refine⟨?_,fun y hy e=>?_,fun y hy e=>?_,fun y hy e=>?_,h5,fun i j x e1 e2=>?_⟩
 · cases hk:scope.kind <;> rw[hk] at h1 <;> simp at h1 ⊢
 · have:=h2 y hy;rw[e] at this;simp[bS] at this
 · have:=h3 y hy
   rw[e] at this
   simp only[XG,Bool.not_true,Bool.false_or] at this
   cases hl:scope.names.lookup y.1 with
   | none=>rw[hl] at this;cases this
   | some k=>rw[hl] at this;cases k <;> first | rfl | cases this
 · have:=h4 y hy
   rw[e] at this
   simp only[bR,Bool.not_true,Bool.false_or] at this
   cases hl:X.env.scope.names.lookup y.1 with
   | none=>rw[hl] at this;cases this
   | some k=>
     rw[hl] at this
     cases k <;> first
       | exact .inl hl
       | exact .inr hl
       | cases this
 · have hi:i < NC.length:=(yT.mp e1).1
   have:=h6 i hi
   rw[e1,e2] at this
   simp only[a1Z,beq_iff_eq] at this
   obtain⟨⟨q1,q2⟩,q3⟩:=this
   refine⟨q1,?_,?_⟩
   · cases hl:scope.names.lookup x with
     | none=>rw[hl] at q2;cases q2
     | some k=>rw[hl] at q2;cases k <;> first | rfl | cases q2
   · cases hl:X.env.scope.names.lookup x with
     | none=>rw[hl] at q3;cases q3
     | some k=>
       rw[hl] at q3
       cases k <;> first
         | exact⟨.inr (.inl hl),fun z=>by have z':X.env.scope.names.lookup x=some .local:=z;rw[hl] at z';cases z'⟩
         | exact⟨.inr (.inr hl),fun z=>by have z':X.env.scope.names.lookup x=some .local:=z;rw[hl] at z';cases z'⟩
         | cases q3
end L2
namespace DL
open PySem PySem.Spec L2
section
variable {K:Frg}{ρ:List (Option DS)}{M:Own}{Q:DS->Own->Prop}{H:Hp}{QI:List PyData->Own->Prop}{tl ta tb:TE}
theorem bU {i j:Int}(q:Q (.d (.int (i+j))) M):D2 K (TL K) (.d (.int i)) (.d (.int j)) M Q:=F7 (pK q)
theorem bV {i j:Str}(hz:i.length+j.length<=sizeLine) (q:Q (.d (.str (i++j))) M):D2 K (TL K) (.d (.str i)) (.d (.str j)) M Q:=F8 (F7 (gV hz q))
theorem bW {a b:List PyData}(hz:a.length+b.length<=sizeLine) (q:Q (.d (.list (a++b))) M):D2 K (TL K) (.d (.list a)) (.d (.list b)) M Q:=F8 (F8 (mT hz q))
theorem BO {ds:List PyData}{i:Int}{d:PyData}(e:atI ds i=some d) (q:Q (.d d) M):D2 K (YX K) (.d (.list ds)) (.d (.int i)) M Q:=F7 (mP e q)
theorem hX {a:Addr}{ds:List PyData}{i:Int}{d:PyData}(m:M a=some (.l ds)) (e:atI ds i=some d) (q:Q (.d d) M):D2 K (YX K) (.loc a) (.d (.int i)) M Q:=F7 (mR m e q)
theorem AC {ds:List PyData}{i:Int}{d:PyData}(e:atI ds i=some d) (q:Q (.d d) M):D2 K (YX K) (.d (.tuple ds)) (.d (.int i)) M Q:=F8 (F7 (mQ e q))
theorem RM {z:Str}{i:Int}{c:Nat}(hz:z.length<=sizeLine) (e:atI z.cps.toList i=some c) (q:Q (.d (.str ⟨#[c]⟩)) M):D2 K (YX K) (.d (.str z)) (.d (.int i)) M Q:=F8 (F8 (mS hz e q))
theorem bX {z:Str}{lo hi:Option Int}(hz:z.length<=sizeLine) (q:Q (.d (.str (a0W z lo hi))) M):DSl K (h9 K) (.d (.str z)) lo hi M Q:=fun H v QQ oa s1 k=>.inr (gZ hz q H v QQ oa s1 k)
theorem YZ {ds:List PyData}{lo hi:Option Int}(q:Q (.d (.list (CT ds lo hi))) M):DSl K (h9 K) (.d (.list ds)) lo hi M Q:=fun H v QQ oa s1 k=>.inl (bP q H v QQ oa s1 k)
theorem i0 {i j:Int}(q:Q (.d (.bool (decide (i < j)))) M):D2 K pM (.d (.int i)) (.d (.int j)) M Q:=F7 (pL q)
theorem D6 {x:Str}{ys:List Str}(q:Q (.d (.bool (decide (x∈ys)))) M):D2 K (hU K) (.d (.str x)) (.d (.list (ys.map .str))) M Q:=F8 (mO (neg:=false) q)
theorem B3 (h:DE K tl ρ M fun x M1=>∃ds,x = .d (.list ds)/\QI ds M1):DI K (hW K tl) ρ M QI:=fun σ H R Rl k=>
 h σ H _ Rl fun v H1 x M1 o1 s1 t1 ⟨ds,e,q⟩=>by
   subst e
   unfold SI DV at s1
   obtain⟨a,vs,rfl,hl,hd⟩:=s1
   refine .inl ⟨a,rfl,⟨vs,hl.sq⟩,k _ ds H1 M1 o1 t1 ⟨fun i H' M' hi oa st=>?_,fun H' M' oa st=>?_,fun i H' M' x H2 oa st hi y=>?_⟩ q⟩
   · exact⟨vs,vs[i]'(by rw[hd.length];exact hi),(hl.grow st.grow).sq,by simp[hd.length,hi]⟩
   · exact⟨vs,(hl.grow st.grow).sq,by rw[hd.length];exact zR _⟩
   · obtain⟨rfl,y⟩:=y
     obtain⟨d,e1,e2⟩:=hd.get (y vs (hl.grow st.grow).sq)
     exact⟨oa,Step.refl,d,e1,e2.grow st.grow⟩
theorem B9 (h:DE K tl ρ M fun x M1=>∃ds,x = .d (.tuple ds)/\QI ds M1):DI K (hW K tl) ρ M QI:=fun σ H R Rl k=>
 h σ H _ Rl fun v H1 x M1 o1 s1 t1 ⟨ds,e,q⟩=>by
   subst e
   unfold SI DV at s1
   obtain⟨a,vs,rfl,hl,hd⟩:=s1
   refine .inr (.inl ⟨a,rfl,⟨vs,hl.sq⟩,k _ ds H1 M1 o1 t1 ⟨fun i H' M' hi oa st=>?_,fun H' M' oa st=>?_,fun i H' M' x H2 oa st hi y=>?_⟩ q⟩)
   · exact⟨vs,vs[i]'(by rw[hd.length];exact hi),(hl.grow st.grow).sq,by simp[hd.length,hi]⟩
   · exact⟨vs,(hl.grow st.grow).sq,by rw[hd.length];exact zR _⟩
   · obtain⟨rfl,y⟩:=y
     obtain⟨d,e1,e2⟩:=hd.get (y vs (hl.grow st.grow).sq)
     exact⟨oa,Step.refl,d,e1,e2.grow st.grow⟩
def tyD:PyData->String
 | .none => "NoneType"
 | .bool _ => "bool"
 | .int _ => "int"
 | .str _ => "str"
 | .list _ => "list"
 | .tuple _ => "tuple"
 | .dict _ => "dict"
end
end DL
namespace L2
open PySem PySem.Spec PyProof.Rows
section
variable {X:Cx}
def bY (K:Frg):List V->Hp->VK->Prop:=fun xs H Q=>∃(x:V) (T:String) (d:PyData) (W:Addr->Prop) (b:Bool),xs=[x,.ty T]/\DV K H W d x/\PySem.W.kitOne K (.type (DL.tyD d)) (.type T)=some b/\Q (.bl b) H
theorem Z0:B6 X (.builtin "isinstance") (bY X.K):=by
 intro pins s σ H xs us Q I r h
 obtain⟨x,T,d,W,b,rfl,dv,e,q⟩:=h
 obtain⟨u,u',rfl,ru,ru'⟩:=jP r
 cases ru'
 have fin:∀tk,EP X pins σ Q (.bool b) { s with toks:=tk }:=fun tk=>⟨.bl b,H,I.tok _,rfl,q⟩
 cases d with
 | none=>unfold DV at dv;subst dv;exact FF I ru (TyOf.non) e fin
 | bool y=>unfold DV at dv;subst dv;exact FF I ru (TyOf.bl _) e fin
 | int i=>unfold DV at dv;subst dv;exact FF I ru (TyOf.int _) e fin
 | str y=>unfold DV at dv;subst dv;exact FF I ru (TyOf.str _) e fin
 | list ds=>
   unfold DV at dv
   obtain⟨a,vs,rfl,hl,_⟩:=dv
   cases ru
   obtain⟨its,rv,⟨o,n,h1,h2,_,_⟩,_⟩:=I.list hl.sq
   exact a2J PySem.W.kitx_list I.kIn ⟨o,h1,h2⟩ e (fun z=>nomatch z) fin
 | tuple ds=>
   unfold DV at dv
   obtain⟨a,vs,rfl,hl,_⟩:=dv
   cases ru
   obtain⟨its,rv,⟨o,h1,h2,_⟩,_⟩:=I.tuple hl.sq
   exact a2J PySem.W.kitx_tuple I.kIn ⟨o,h1,h2⟩ e (fun z=>nomatch z) fin
 | dict kvs=>
   unfold DV at dv
   obtain⟨a,vs,rfl,_,hl,_⟩:=dv
   rcases hl with hl | ⟨o',hl⟩
   · exact FF I ru (TyOf.dK hl) e fin
   · cases ru
     obtain⟨_,_,vs',_,dd⟩:=IU I.hok (.inr ⟨o',hl⟩)
     exact a2J PySem.W.kitx_dict I.kIn dd.typeIs e (fun z=>nomatch z) fin
end
end L2
namespace DL
open PySem PySem.Spec L2
section
variable {K:Frg}{ρ:List (Option DS)}{M:Own}{Q:DS->Own->Prop}{H:Hp}{ta tb:TE}
theorem bZ {d:PyData}{T:String}{b:Bool}(e:PySem.W.kitOne K (.type (tyD d)) (.type T)=some b) (q:Q (.d (.bool b)) M):DR K (bY K) [.d d,.ty T] M Q:=fun H vs QQ oa s k=>by
 obtain⟨v,r,rfl,h1,v2,r2,rfl,h2,h3⟩:=s
 cases h3
 rw[show v2 = .ty T from h2]
 exact⟨v,T,d,M.W,b,rfl,h1,e,k _ H _ M oa AT Step.refl q⟩
theorem K1 {p:Addr}{ks:List (Key×V)}{kvs:List (PyData×PyData)}(oa:OA K H M) (h:H p=b7J) (hd:DKV K H M.W kvs ks) :
   OA K (upd H p (.dK ks)) (M.put p (.d kvs))/\Step K M (M.put p (.d kvs)) H (upd H p (.dK ks)):=by
 have hM:=oa.none h
 have g:Grow K M.W (M.put p (.d kvs)).W H (upd H p (.dK ks)):=⟨fun b u e _=>.inl (by rw[AG (B0 e h)];exact e),fun b w=>by
   by_cases hb:b=p
   · subst hb;exact .inr h
   · left;unfold Own.W at w ⊢;rw[yH hb] at w;exact w⟩
 refine⟨fun a o e=>?_,⟨g⟩⟩
 by_cases ha:a=p
 · subst ha;rw[zU] at e;cases e;exact⟨ks,AE,hd.grow g⟩
 · rw[yH ha] at e
   have q:=oa a o e
   cases o <;> (obtain⟨vs,q1,q2⟩:=q;exact⟨vs,by rw[AG ha];exact q1,q2.grow g⟩)
theorem EC {p:Addr}{ks:List (Key×V)}{kvs:List (PyData×PyData)}{o:MO}(oa:OA K H M) (h:M p=some o) (hd:DKV K H M.W kvs ks) :
   OA K (upd H p (.dK ks)) (M.put p (.d kvs))/\Step K M (M.put p (.d kvs)) H (upd H p (.dK ks)):=by
 have hw:∀b,(M.put p (.d kvs)).W b->M.W b:=fun b w=>by
   unfold Own.W at w ⊢
   by_cases hb:b=p
   · subst hb;rw[h];simp
   · rw[yH hb] at w;exact w
 have g:Grow K M.W (M.put p (.d kvs)).W H (upd H p (.dK ks)):=⟨fun b u e nw=>.inl (by
   rw[AG (by rintro rfl;exact nw (by unfold Own.W;rw[h];simp))];exact e),fun b w=>.inl (hw b w)⟩
 refine⟨fun a o e=>?_,⟨g⟩⟩
 by_cases ha:a=p
 · subst ha;rw[zU] at e;cases e;exact⟨ks,AE,hd.grow g⟩
 · rw[yH ha] at e
   have q:=oa a o e
   cases o <;> (obtain⟨vs,q1,q2⟩:=q;exact⟨vs,by rw[AG ha];exact q1,q2.grow g⟩)
end
structure Has (P:Program) (w:World) (K:Frg) (mg:Str->Option Value) (base:Heap) (x:Str) (k:Nat) (ps:List Str) (S:FSp):Prop where
 ex:∃f fd,FnOk P w K mg base CX0 k f fd ps (spD K ps.length S)/\mg x=some (.ref f)/\b0Q K (.ref f)=true/\Binds K fd ps []
theorem c5 {X:Cx}{x:Str}{k:Nat}{ps:List Str}{S:FSp}{e:Expr}{es:List Expr}{t:TA}{p pos:Pos}(h:Has X.prog X.w X.K X.mg X.base x k ps S) (hr:Room k X.A) (hg:Gl X x) (ha:PA X (e::es) t)
   (hdb:(x==("__debug__":Str))=false:=by decide) (he:starEach (e::es) X.env=(false,eval e X.env)::starEach es X.env:=by rfl) (hpl:(backTo pos (starEach es X.env)).any (·.1)=false:=by rfl) :
   PE X (.Call (.Name x p) (e::es) [] pos) (X5 (spD X.K ps.length S) [] E0 t):=by
 obtain⟨f,fd,F,hm,hk,hb⟩:=h.ex
 exact fZ F hr hg hm hk hb .nil pA ha hdb he hpl
section
variable {X:Cx}{K:Frg}
theorem kIx (h:X.K=K):IxR X (YX K):=h▸mW
theorem kIn (h:X.K=K):OpR X (compareOp .In) (hU K):=h▸mY
theorem n4 (h:X.K=K):OpR X (compareOp .NotIn) (RL K):=h▸YY
theorem kEq (h:X.K=K) (hu:X.A.units+64 < cLine):OpR X (compareOp .Eq) (YV K false):=h▸m8 hu
theorem kNe (h:X.K=K) (hu:X.A.units+64 < cLine):OpR X (compareOp .NotEq) (YV K true):=h▸m9 hu
def n5 (K:Frg):List V->Hp->VK->Prop:=fun xs H Q=>∃x n,xs=[x]/\fW K x H n/\Q (.int (n:Nat)) H
def jZ (K:Frg):List V->Hp->VK->Prop:=fun xs H Q=>∃(p:Addr) (bs:List Bool),xs=[.ref p]/\SqL K H p (bs.map V.bl)/\Q (.bl (bs.all id)) H
def k0 (K:Frg):List V->Hp->VK->Prop:=fun xs H Q=>∃(p:Addr) (bs:List Bool),xs=[.ref p]/\SqL K H p (bs.map V.bl)/\Q (.bl (bs.any id)) H
theorem qO (h:X.K=K):B6 X (.builtin "len") (n5 K):=h▸aU
theorem qP (h:X.K=K) (hc:X.calm=true):B6 X (.builtin "all") (jZ K):=h▸bI hc
theorem qQ (h:X.K=K) (hc:X.calm=true):B6 X (.builtin "any") (k0 K):=h▸bJ hc
theorem qR (h:X.K=K):B6 X (.builtin "isinstance") (bY K):=h▸Z0
theorem pN {tg l:Expr}{tl:TE}(h:X.K=K) (hl:PE X l tl):PI X tg l (hW K tl):=h▸mZ hl
theorem pO {P:Program}{w:World}{mg:Str->Option Value}{base:Heap}{x:Str}{k:Nat}{ps:List Str}{S:FSp}{e:Expr}{es:List Expr}{t:TA}{p pos:Pos}(hK:X.K=K) (hP:X.prog=P) (hw:X.w=w) (hmg:X.mg=mg) (hbs:X.base=base)
   (h:Has P w K mg base x k ps S) (hr:Room k X.A) (hg:Gl X x) (ha:PA X (e::es) t)
   (hdb:(x==("__debug__":Str))=false:=by decide) (he:starEach (e::es) X.env=(false,eval e X.env)::starEach es X.env:=by rfl) (hpl:(backTo pos (starEach es X.env)).any (·.1)=false:=by rfl) :
   PE X (.Call (.Name x p) (e::es) [] pos) (X5 (spD K ps.length S) [] E0 t):=by
 subst hK hP hw hmg hbs
 exact c5 h hr hg ha hdb he hpl
variable {o e:Expr}{es:List Expr}{to:TE}{t:TA}{name:Str}{apos cpos:Pos}{T id:String}{r:V->List V->Hp->VK->Prop}
theorem kBm (h:X.K=K) (pa:PlainAttrs T) (slot:Slot T name id) (hty:typeOf (.builtin id)=pure (.type "method_descriptor")) (hm:MtR X id r) (ho:PE X o to) (ha:PA X (e::es) t)
   (hbase:attributeBase o name X.env (eval o X.env)=eval o X.env:=by rfl)
   (hfew:((backTo cpos (starEach (e::es) X.env)).all (fun x=>!x.1)&&(backToKw cpos (keywordEach [] X.env)).all (fun x=>x.1.isSome)
     && decide ((e::es).length+([]:List Keyword).length+(if ([]:List Keyword).isEmpty then 0 else 1) < 30))=true:=by rfl)
   (hline:(apos.endLine==cpos.line)=true:=by rfl) (hs:starEach (e::es) X.env=(false,eval e X.env)::starEach es X.env:=by rfl) (hplain:(backTo cpos (starEach es X.env)).any (·.1)=false:=by rfl) :
   PE X (.Call (.Attribute o name apos) (e::es) [] cpos) (tBM K T r to t):=h▸oZ pa slot hty hm ho ha hbase hfew hline hs hplain
end
section
variable {K:Frg}{M:Own}{Q:DS->Own->Prop}
theorem RN {ds:List PyData}(q:Q (.d (.int ds.length)) M):DR K (n5 K) [.d (.list ds)] M Q:=gW q
theorem IJ {ds:List PyData}(q:Q (.d (.int ds.length)) M):DR K (n5 K) [.d (.tuple ds)] M Q:=gX q
theorem NF {bs:List Bool}(q:Q (.d (.bool (bs.all id))) M):DR K (jZ K) [.d (.list (bs.map .bool))] M Q:=mU q
theorem c6 {bs:List Bool}(q:Q (.d (.bool (bs.any id))) M):DR K (k0 K) [.d (.list (bs.map .bool))] M Q:=mV q
end
end DL
namespace L2
open PySem PySem.Spec PyProof.Rows
section
variable {X:Cx}
theorem XH:∀{its:List Value}{ss:List Str},StrsAre its ss->Vals (ss.map V.str) its
 | _,_,.nil=>.nil
 | _,_,.cons y t r=>.cons ⟨t,rfl⟩ (XH r)
def RO (K:Frg):List V->Hp->VK->Prop:=fun xs H Q=>∃(p:Addr) (ss:List Str),xs=[.ref p]/\SqL K H p (ss.map V.str)/\ss.length < 64/\∀(ss':List Str) (q:Addr),ss'.Perm ss->sortedS ss'=true->H q=none->Q (.ref q) (upd H q (.lst (ss'.map V.str)))
theorem VX:B6 X (.builtin "sorted") (RO X.K):=by
 intro pins s σ H xs us Q I r h
 obtain⟨p,ss,rfl,hp,h64,q⟩:=h
 obtain⟨u,rfl,ru⟩:=DZ r
 cases ru
 obtain⟨its,rv,pl,hz⟩:=I.list hp
 have hS:=XB rv
 have el:=rv.length
 rw[zX] at el
 refine sorted_strs pl.isList hS (by omega) fun out ss' h1 h2 h3=>?_
 obtain⟨e,he⟩:=sortedAll_at s.heap its out
 have hn:H (s.heap.objs.size+1)=none:=I.hok.fresh (b5Z _)
 have hlen:=h2.length_eq
 refine⟨.ref (s.heap.objs.size+1),_,I.laid (t':=s.toks) (o:=.lst (ss'.map V.str)) (fun b o eb=>sortedAll_old eb) (b5Z _) ?_,rfl,q ss' _ h2 h3 hn⟩
 refine⟨by rw[zX,hlen];exact zN (xR h64) (by decide),out.toList,e,XH h1,?_⟩
 have he':=he
 simpa [seqObj] using he'
end
end L2
namespace DL
open PySem PySem.Spec L2
section
variable {X:Cx}{K:Frg}
def NG (K:Frg):List V->Hp->VK->Prop:=fun xs H Q=>∃p ys,xs=[.ref p]/\((SqL K H p ys/\∀l,H l=none->Q (.ref l) (upd H l (.tup ys)))∨(SqT K H p ys/\Q (.ref p) H))
theorem n6 (h:X.K=K):B6 X (.type "tuple") (NG K):=h▸P0
def RP (K:Frg):List V->Hp->VK->Prop:=fun xs H Q=>∃p ys,xs=[.ref p]/\(SqL K H p ys∨SqT K H p ys)/\∀l,H l=none->Q (.ref l) (upd H l (.lst ys))
theorem pP (h:X.K=K):B6 X (.type "list") (RP K):=h▸R5
end
section
variable {K:Frg}{M:Own}{Q:DS->Own->Prop}{ρ:List (Option DS)}{H:Hp}
theorem ER {ds:List PyData}(q:Q (.d (.tuple ds)) M):DR K (NG K) [.d (.list ds)] M Q:=fun H vs QQ oa s k=>by
 obtain⟨v,r,rfl,h1,h2⟩:=s
 cases h2
 unfold SI DV at h1
 obtain⟨a,vs,rfl,hl,hd⟩:=h1
 refine⟨a,vs,rfl,.inl ⟨hl.sq,fun p hp=>?_⟩⟩
 have g:Grow K M.W M.W H (upd H p (.tup vs)):=AR _ hp
 refine k _ _ (.d (.tuple ds)) M (oa.new hp) ?_ ⟨g⟩ q
 unfold SI DV
 exact⟨p,vs,rfl,.inl ⟨fun w=>w (oa.none hp),.inl AE⟩,hd.grow g⟩
theorem TM {ds:List PyData}(q:Q (.d (.list ds)) M):DR K (RP K) [.d (.tuple ds)] M Q:=fun H vs QQ oa s k=>by
 obtain⟨v,r,rfl,h1,h2⟩:=s
 cases h2
 unfold SI DV at h1
 obtain⟨a,vs,rfl,hl,hd⟩:=h1
 refine⟨a,vs,rfl,.inr hl.sq,fun p hp=>?_⟩
 have g:Grow K M.W M.W H (upd H p (.lst vs)):=AR _ hp
 refine k _ _ (.d (.list ds)) M (oa.new hp) ?_ ⟨g⟩ q
 unfold SI DV
 exact⟨p,vs,rfl,.inl ⟨fun w=>w (oa.none hp),.inl AE⟩,hd.grow g⟩
theorem HL {W:Addr->Prop}:∀{bs:List Str},DVs K H W (bs.map a0K) (bs.map V.str)
 | []=>DVs.nil
 | b::bs=>DVs.cons (by unfold DV;rfl) HL
theorem i3 {ss:List Str}(h64:ss.length < 64) (q:∀ss':List Str,ss'.Perm ss->PyProof.Rows.sortedS ss'=true->Q (.d (.list (ss'.map .str))) M):DR K (RO K) [.d (.list (ss.map .str))] M Q:=fun H vs QQ oa s k=>by
 obtain⟨v,r,rfl,h1,h2⟩:=s
 cases h2
 unfold SI DV at h1
 obtain⟨a,vs,rfl,hl,hd⟩:=h1
 rw[JZ hd] at hl
 refine⟨a,ss,rfl,hl.sq,h64,fun ss' p h3 h4 hp=>?_⟩
 have g:Grow K M.W M.W H (upd H p (.lst (ss'.map V.str))):=AR _ hp
 refine k _ _ (.d (.list (ss'.map .str))) M (oa.new hp) ?_ ⟨g⟩ (q ss' h3 h4)
 unfold SI DV
 exact⟨p,_,rfl,.inl ⟨fun w=>w (oa.none hp),.inl AE⟩,HL⟩
def RQ:PyData->Bool | .none=>true | _=>false
theorem i4 {d:PyData}(q:Q (.d (.bool (!RQ d))) M):D2 K (fun x y H Q=>y = .non/\Q (.bl (!decide (x = .non))) H) (.d d) (.d .none) M Q:=fun H v u QQ oa s1 s2 k=>by
 refine⟨mN s2,k _ H (.d (.bool (!RQ d))) M oa ?_ Step.refl q⟩
 cases d <;> unfold SI DV at s1
 · rw[s1];exact AT
 · rw[s1];exact AT
 · rw[s1];exact AT
 · rw[s1];exact AT
 · obtain⟨a,_,rfl,_⟩:=s1;exact AT
 · obtain⟨a,_,rfl,_⟩:=s1;exact AT
 · obtain⟨a,_,rfl,_⟩:=s1;exact AT
end
def DGs (K:Frg) (g:TGs) (ds:List PyData) (ρ:List (Option DS)) (M:Own) (P:List (Option DS)->Own->Prop):Prop:=
 ∀(σ:St) (H:Hp) (vs:List V) (QQ:St->Hp->Prop),Rel K M ρ σ H->DVs K H M.W ds vs->(∀ρ' M' σ' H',Rel K M' ρ' σ' H'->Step K M M' H H'->P ρ' M'->QQ σ' H')->g vs σ H QQ
section
variable {K:Frg}{M:Own}{ρ:List (Option DS)}{P:List (Option DS)->Own->Prop}
theorem i5 (h:P ρ M):DGs K l3 [] ρ M P:=fun σ H vs QQ R hd k=>by
 unfold DVs at hd
 subst hd
 exact⟨rfl,k ρ M σ H R Step.refl h⟩
theorem c7 {i:Nat}{g:TGs}{d:PyData}{ds:List PyData}(h:DGs K g ds (ρ.set i (some (.d d))) M P):DGs K (X3 (N5 i) g) (d::ds) ρ M P:=fun σ H vs QQ R hd k=>by
 unfold DVs at hd
 obtain⟨v,r,rfl,h1,h2⟩:=hd
 exact⟨v,r,rfl,h (σ.set i (some v)) H r QQ (R.set (x:=.d d) h1 i) h2 k⟩
theorem n8 {n:Nat}{g:TGs}{ds:List PyData}(hn:ds.length=n) (h:DGs K g ds ρ M P):DG K (fT K n g) (.tuple ds) ρ M P:=fun σ H v QQ R dv k=>by
 unfold DV at dv
 obtain⟨a,vs,rfl,hl,hd⟩:=dv
 exact⟨a,vs,rfl,hl.sq,by rw[hd.length];exact hn,h σ H vs QQ R hd k⟩
def i6 (g:TGs) (T:List Nat):Prop:=(∀(vs:List V) (σ:St) (H:Hp) (Q Q':St->Hp->Prop),(∀a b,Q a b->Q' a b)->g vs σ H Q->g vs σ H Q') /\
 (∀(vs:List V) (σ:St) (H:Hp) (QQ:St->Hp->Prop),g vs σ H QQ->g vs σ H fun σ2 H2=>(∀i,i∉T->σ2[i]?=σ[i]?)/\QQ σ2 H2)
theorem RR:i6 l3 []:=⟨fun vs σ H Q Q' m ⟨e,h⟩=>⟨e,m _ _ h⟩,fun vs σ H QQ ⟨e,h⟩=>⟨e,fun _ _=>rfl,h⟩⟩
theorem ES {i:Nat}{g:TGs}{T:List Nat}(hg:i6 g T):i6 (X3 (N5 i) g) (i::T):=by
 refine⟨fun vs σ H Q Q' m ⟨v,r,e,h⟩=>⟨v,r,e,hg.1 r _ H Q Q' m h⟩,fun vs σ H QQ ⟨v,r,e,h⟩=>⟨v,r,e,?_⟩⟩
 refine hg.1 r _ H _ _ (fun σ2 H2 ⟨h1,h2⟩=>⟨fun j hj=>?_,h2⟩) (hg.2 r (σ.set i (some v)) H QQ h)
 rw[h1 j fun z=>hj (yV _ z),b3W (by rintro rfl;exact hj a2V)]
theorem RS {n:Nat}{g:TGs}{T:List Nat}(hg:i6 g T):HK (fT K n g) T:=fun v σ H QQ ⟨a,xs,e,hs,hl,h⟩=>
 ⟨a,xs,e,hs,hl,hg.1 xs σ H _ _ (fun σ2 H2 ⟨h1,h2⟩=>h2 h1) (hg.2 xs σ H _ h)⟩
end
end DL
namespace L2
open PySem PySem.Spec PyProof.Rows
section
variable {X:Cx}{pins:List (Addr×Obj)}{σ:St}{H:Hp}{s:Shared}{h':Heap}
theorem Inv.turnedT {ch:List Addr}{T:Addr}{ys:List V}{t':Nat}(I:Inv X pins σ H s) (k:∀b o,b∉ch->s.heap.get? b=some o->h'.get? b=some o) (hn:∀b∈ch,H b=none)
   (hch:∀b∈ch,(b∈X.ex∨X.s₀.heap.objs.size<=b)/\b≠X.env.locals/\(∀x c,X.env.cells.lookup x=some c->c≠b)/\∀p∈X.pn++pins,p.1≠b)
   (hT:s.heap.objs.size<=T) (new:ObjOk X.prog X.w (upd H T (.tup ys)) h' T (.tup ys)):Inv X pins σ (upd H T (.tup ys)) { s with heap:=h',toks:=t' }:=by
 have hTn:H T=none:=I.hok.fresh hT
 have nch:∀b u,H b=some u->b∉ch:=fun b u e z=>by rw[hn b z] at e;cases e
 refine I.step (g':=s.gens) (d':=s.drawn) (ch:=ch) hch (fun b o _ _ hc e _=>k b o hc e) (fun b o _ _ hc e _=>⟨o.slots,k b o hc e⟩) (fun b o hc e n=>?_)
   (fun b o hc e=>⟨o,k b o hc e⟩) (fun b xs e=>?_) (fun b o u e=>?_) (fun b ps e=>⟨#[],?_⟩) (fun m hm=>?_) (fun b u e=>?_) I.bare
 · rw[AG (zC (zP (zM e) hT))];exact n
 · rw[AG (B0 e hTn)];exact e
 · rw[AG (B0 e hTn)];exact e
 · rw[AG (B0 e hTn),e];simp
 · obtain⟨o,es,ep,ho,r⟩:=hm
   exact⟨o,es,ep,k _ o (fun z=>(hch _ z).2.1 rfl) ho,r⟩
 · by_cases hb:b=T
   · subst hb;rw[AE] at e;cases e;exact new
   · rw[AG hb] at e
     refine(I.hok b u e).stay (fun c v hc q=>k c v ?_ q) (fun c q=>by rw[AG (B0 q hTn)];exact q) fun c xs q=>by rw[AG (B0 q hTn)];exact q
     rcases hc with z | z
     · rw[z];exact nch b u e
     · exact nch c _ z
theorem Inv.turnedL {ch:List Addr}{t':Nat}(I:Inv X pins σ H s) (k:∀b o,b∉ch->s.heap.get? b=some o->h'.get? b=some o) (hn:∀b∈ch,H b=none)
   (hch:∀b∈ch,(b∈X.ex∨X.s₀.heap.objs.size<=b)/\b≠X.env.locals/\(∀x c,X.env.cells.lookup x=some c->c≠b)/\∀p∈X.pn++pins,p.1≠b):Inv X pins σ H { s with heap:=h',toks:=t' }:=by
 have nch:∀b u,H b=some u->b∉ch:=fun b u e z=>by rw[hn b z] at e;cases e
 refine I.step (g':=s.gens) (d':=s.drawn) (ch:=ch) hch (fun b o _ _ hc e _=>k b o hc e) (fun b o _ _ hc e _=>⟨o.slots,k b o hc e⟩) (fun b o hc e n=>n)
   (fun b o hc e=>⟨o,k b o hc e⟩) (fun b xs e=>e) (fun b o u e=>e) (fun b ps e=>⟨#[],by rw[e];simp⟩) (fun m hm=>?_) (fun b u e=>?_) I.bare
 · obtain⟨o,es,ep,ho,r⟩:=hm
   exact⟨o,es,ep,k _ o (fun z=>(hch _ z).2.1 rfl) ho,r⟩
 · refine(I.hok b u e).stay (fun c v hc q=>k c v ?_ q) (fun c q=>q) fun c xs q=>q
   rcases hc with z | z
   · rw[z];exact nch b u e
   · exact nch c _ z
theorem k6 {a z:Addr}{xs:List V}(I:Inv X pins σ H s) (hf:JW X pins H z) (h:SqL X.K H a xs):a≠z:=by
 rintro rfl
 rcases h with h | ⟨o,its,n,hk,_⟩
 · rcases h with h | ⟨o',h⟩ <;> rw[hf.1] at h <;> cases h
 · have e:=I.ok.mod.kin a o hk
   rcases hf.2.2.2.1 with z | z
   · exact I.ok.noex a o e z
   · exact absurd (zP (zM e) (zN I.ok.bsz z)) (yF _)
end
end L2
namespace DL
open PySem PySem.Spec L2
section
variable {K:Frg}{M:Own}{ρ:List (Option DS)}{QI:List PyData->Own->Prop}
def P2 (as bs:List PyData):List PyData:=(as.zip bs).map fun p=>.tuple [p.1,p.2]
end
end DL
namespace HT
open PySem PySem.Spec PyProof.Rows
section
variable {prog:Program}{w:World}{A:Around}{E:Value->Shared->Prop}{s:Shared}
theorem getItem_tuple_whole {t sl:Addr}{items:Array Value}{vl vu:Value}{lo hi:Option Int}{Q:Value->Shared->Prop}(ht:IsTup s.heap t items) (hs:s.heap.IsSliceOf sl vl vu .none) (pl:IsPart vl lo) (pu:IsPart vu hi)
   (hw:sIx items.size 0 lo=0/\sIx items.size items.size hi=items.size) (h:Q (.ref t) s):wpAny (model prog w) A (getItem (.ref t) (.ref sl)) Q E s:=by
 obtain⟨os,hos,hcs,hds⟩:=id hs
 have hTs:s.TypeIs (.ref sl) "slice" := ⟨os,hos,hcs⟩
 unfold getItem
 try with_reducible refine wpAny_holding ?_
 first | refine zZ (zY ?_) | skip
 refine zZ (wpAny_sequenceKey ht.typeIs (by decide) ?_)
 refine zZ (wpAny_callSpecial?_slot (name:=a0Q "__getitem__") ht.typeIs a3Q
   (wpAny_call_entry a3Q ht.typeIs entry_tuple_getitem ?_ (args_tuple_getitem _ _)))
 show wpAny _ _ (b3X (.ref t) >>= _) _ _ s
 refine zZ (tupleItemsOf_ ht ?_)
 refine zZ (wpAny_typeOf hTs ?_)
 rw[if_pos (by decide)]
 refine zZ (FG hs pl pu ?_)
 have hno:((((sIx items.size 0 lo:Nat):Int)==0&&(1:Int)==1&&(sIx items.size items.size hi - sIx items.size 0 lo)==items.size)=true):=by
   rw[hw.1,hw.2];simp
 show wpAny _ _ (if (((sIx items.size 0 lo:Nat):Int)==0&&(1:Int)==1&&(sIx items.size items.size hi - sIx items.size 0 lo)==items.size)=true then _ else _) _ _ s
 rw[if_pos hno]
 refine zZ (m:=Builtin.Tuple.tupleIsExact _) (zZ (wpAny_typeOf ht.typeIs (zY ?_)))
 show wpAny _ _ (if true=true then _ else _) _ _ s
 rw[if_pos rfl]
 first
   | exact zZ (wpAny_rule (zZ (zY ⟨_,rfl,zY h⟩)))
   | exact zZ (wpAny_rule (zY ⟨_,rfl,zY h⟩))
   | exact zZ (wpAny_rule (zZ (zY (zY ⟨_,rfl,zY h⟩))))
end
end HT
namespace L2
open PySem PySem.Spec PyProof.Rows
section
variable {X:Cx}
def k7 (K:Frg):V->Option Int->Option Int->Hp->VK->Prop:=fun x lo hi H Q=>∃a xs,x = .ref a/\SqT K H a xs/\(JJ xs lo hi=xs->Q (.ref a) H)/\∀p,H p=none->Q (.ref p) (upd H p (.tup (JJ xs lo hi)))
theorem i7:SlR X (k7 X.K):=by
 intro pins s σ H x v vl vu lo hi sl Q I rx hs pl pu h
 obtain⟨a,xs,rfl,hx,q1,q2⟩:=h
 cases rx
 obtain⟨its,r,ht,hz⟩:=I.tuple hx
 have hlen:its.toArray.size=xs.length:=by rw[zJ];exact r.length.symm
 by_cases hw:HT.sIx xs.length 0 lo=0/\HT.sIx xs.length xs.length hi=xs.length
 · refine⟨"tuple", _,PyProof.Rows.slot_tuple_getitem.lookup,ht.typeIs,?_⟩
   refine HT.getItem_tuple_whole ht hs pl pu (by rw[hlen];exact hw) ⟨.ref a,H,I,rfl,q1 ?_⟩
   unfold JJ
   rw[hw.1,hw.2];simp
 · exact lP pins s σ H (.ref a) (.ref a) vl vu lo hi sl Q I rfl hs pl pu ⟨a,xs,rfl,hx,hw,q2⟩
def c8 (K:Frg):R2:=fun x y H Q=>∃a b xs ys,x = .ref a/\y = .ref b/\SqT K H a xs/\SqT K H b ys/\xs.length+ys.length<=sizeLine /\
 (xs=[]->Q (.ref b) H)/\(ys=[]->Q (.ref a) H)/\(∀p,H p=none->Q (.ref p) (upd H p (.tup (xs++ys))))
theorem c9:OpR X (binaryOp .Add) (c8 X.K):=by
 intro pins s σ H x y v u Q I rx ry h
 obtain⟨t,b,xs,ys,rfl,rfl,hx,hy,hz,q0,q1,q2⟩:=h
 cases rx
 cases ry
 obtain⟨its,r,ht,_⟩:=I.tuple hx
 obtain⟨its2,r2,hb,_⟩:=I.tuple hy
 have e1:=r.length
 have e2:=r2.length
 obtain⟨⟨cls,dd,data,sl⟩,ho,hc,n,hd⟩:=id ht
 obtain⟨⟨cls2,dd2,data2,sl2⟩,ho2,hc2,n2,hd2⟩:=id hb
 dsimp only at hc hd hc2 hd2
 subst hc hd hc2 hd2
 have e:its.toArray++its2.toArray=(its++its2).toArray:=by simp
 by_cases hv:its=[]
 · have hx0:xs=[]:=by cases r with | nil=>rfl | cons _ _=>cases hv
   exact concat_meets ⟨_,ho,rfl⟩ ⟨_,ho2,rfl⟩ noFill_tuple_add seq_tuple_add b8Q b7Z (b6Q _ _)
     (tuple_addW0 t b its.toArray its2.toArray n n2 dd dd2 sl sl2 (by simp[hv])) ⟨ho,ho2,⟨.ref b,H,I,rfl,q0 hx0⟩⟩
 · by_cases hw:its2=[]
   · have hy0:ys=[]:=by cases r2 with | nil=>rfl | cons _ _=>cases hw
     exact concat_meets ⟨_,ho,rfl⟩ ⟨_,ho2,rfl⟩ noFill_tuple_add seq_tuple_add b8Q b7Z (b6Q _ _)
       (tuple_addW1 t b its.toArray its2.toArray n n2 dd dd2 sl sl2 (by simpa using hv) (by simp[hw])) ⟨ho,ho2,⟨.ref t,H,I,rfl,q1 hy0⟩⟩
   · refine concat_meets ⟨_,ho,rfl⟩ ⟨_,ho2,rfl⟩ noFill_tuple_add seq_tuple_add b8Q b7Z (b6Q _ _)
       (tuple_addW2 t b its.toArray its2.toArray n n2 dd dd2 sl sl2 (by simpa using hv) (by simpa using hw) (by rw[zJ,zJ];omega)) ⟨ho,ho2,?_⟩
     rw[e]
     refine⟨.ref s.heap.objs.size,_,I.laid (t':=s.toks) (o:=.tup (xs++ys)) (fun b ob q=>zW _ q) (zR _) ?_,rfl,q2 _ I.fresh⟩
     exact⟨by rw[yY];exact hz,its++its2,r.append r2,IsTup.new _ _⟩
end
end L2
namespace DL
open PySem PySem.Spec L2
section
variable {X:Cx}{K:Frg}
def Q4 (K:Frg):R2:=fun x y H Q=>TL K x y H Q∨c8 K x y H Q
theorem pQ (h:X.K=K):OpR X (binaryOp .Add) (Q4 K):=h▸h8.or c9
def i8 (K:Frg):V->Option Int->Option Int->Hp->VK->Prop:=fun x lo hi H Q=>h9 K x lo hi H Q∨k7 K x lo hi H Q
theorem qS (h:X.K=K):SlR X (i8 K):=h▸mX.or i7
end
section
variable {K:Frg}{M:Own}{Q:DS->Own->Prop}
theorem cA {i j:Int}(q:Q (.d (.int (i+j))) M):D2 K (Q4 K) (.d (.int i)) (.d (.int j)) M Q:=F7 (bU q)
theorem NH {i j:Str}(hz:i.length+j.length<=sizeLine) (q:Q (.d (.str (i++j))) M):D2 K (Q4 K) (.d (.str i)) (.d (.str j)) M Q:=F7 (bV hz q)
theorem HM {a b:List PyData}(hz:a.length+b.length<=sizeLine) (q:Q (.d (.list (a++b))) M):D2 K (Q4 K) (.d (.list a)) (.d (.list b)) M Q:=F7 (bW hz q)
theorem cB {as bs:List PyData}(hz:as.length+bs.length<=sizeLine) (q:Q (.d (.tuple (as++bs))) M):D2 K (Q4 K) (.d (.tuple as)) (.d (.tuple bs)) M Q:=F8 fun H v u QQ oa s1 s2 k=>by
 have s1':=s1
 have s2':=s2
 unfold SI DV at s1 s2
 obtain⟨a,vs,rfl,hl,hd⟩:=s1
 obtain⟨b,us,rfl,hl2,hd2⟩:=s2
 refine⟨a,b,vs,us,rfl,rfl,hl.sq,hl2.sq,by rw[hd.length,hd2.length];exact hz,fun e=>?_,fun e=>?_,fun p hp=>?_⟩
 · have:as=[]:=by have:=hd.length;rw[e] at this;exact List.length_eq_zero_iff.mp this.symm
   subst this
   exact k _ H (.d (.tuple ([]++bs))) M oa s2' Step.refl q
 · have:bs=[]:=by have:=hd2.length;rw[e] at this;exact List.length_eq_zero_iff.mp this.symm
   subst this
   rw[b2Q] at q
   exact k _ H (.d (.tuple as)) M oa s1' Step.refl q
 · have g:Grow K M.W M.W H (upd H p (.tup (vs++us))):=AR _ hp
   refine k _ _ (.d (.tuple (as++bs))) M (oa.new hp) ?_ ⟨g⟩ q
   unfold SI DV
   exact⟨p,_,rfl,.inl ⟨fun w=>w (oa.none hp),.inl AE⟩,(hd.append hd2).grow g⟩
theorem K2 {z:Str}{lo hi:Option Int}(hz:z.length<=sizeLine) (q:Q (.d (.str (a0W z lo hi))) M):DSl K (i8 K) (.d (.str z)) lo hi M Q:=fun H v QQ oa s1 k=>.inl (bX hz q H v QQ oa s1 k)
theorem CY {ds:List PyData}{lo hi:Option Int}(q:Q (.d (.list (CT ds lo hi))) M):DSl K (i8 K) (.d (.list ds)) lo hi M Q:=fun H v QQ oa s1 k=>.inl (YZ q H v QQ oa s1 k)
theorem HN {ds:List PyData}{lo hi:Option Int}(q:Q (.d (.tuple (CT ds lo hi))) M):DSl K (i8 K) (.d (.tuple ds)) lo hi M Q:=fun H v QQ oa s1 k=>.inr (by
 have s1':=s1
 unfold SI DV at s1
 obtain⟨a,vs,rfl,hl,hd⟩:=s1
 have key:DVs K H M.W (CT ds lo hi) (JJ vs lo hi):=by
   unfold CT JJ
   rw[hd.length]
   exact(hd.drop _).take _
 refine⟨a,vs,rfl,hl.sq,fun e=>?_,fun p hp=>?_⟩
 · refine k _ H (.d (.tuple (CT ds lo hi))) M oa ?_ Step.refl q
   unfold SI DV
   exact⟨a,vs,rfl,hl,by rw[← e];rw[e] at key;rw[e];exact key⟩
 · have g:Grow K M.W M.W H (upd H p (.tup (JJ vs lo hi))):=AR _ hp
   refine k _ _ (.d (.tuple (CT ds lo hi))) M (oa.new hp) ?_ ⟨g⟩ q
   unfold SI DV
   exact⟨p,_,rfl,.inl ⟨fun w=>w (oa.none hp),.inl AE⟩,key.grow g⟩)
end
theorem i9 {X:Cx}{K:Frg}{pos:Pos}{es:List Expr}{k:Nat}{t:TGs}{n:Nat}(hK:X.K=K) (hc:X.calm=true) (h:PGs X es t)
   (hn:(assignEach es X.env).length=n:=by rfl) (hst:(assignEach es X.env).findIdx? (·.1)=none:=by rfl):PG X (.Tuple es k pos) (fT K n t):=hK▸aQ hc h hn hst
end DL
namespace DL
open PySem PySem.Spec L2
def fn1 (pre:PyData->Prop) (f:PyData->PyData):FSp:=⟨fun xs _=>∃d,xs=[.d d]/\pre d,fun xs M y M'=>∀d,xs=[.d d]->y = .d (f d)/\M'=M⟩
theorem D9 {pre:PyData->Prop}{f:PyData->PyData}{d:PyData}{M:Own}{Q:DS->Own->Prop}(p:pre d) (q:Q (.d (f d)) M):[DS.d d].length=1/\(fn1 pre f).pre [.d d] M/\∀x M',(fn1 pre f).post [.d d] M x M'->Q x M':=
 ⟨rfl,⟨d,rfl,p⟩,fun x M' h=>by obtain⟨rfl,rfl⟩:=h d rfl;exact q⟩
def K3 (c:Nat):Bool:=decide (97<=c)&&decide (c<=122)
def n9:PyData->Bool | .int _=>true | _=>false
def JL:FSp:=fn1 (fun _=>True) fun d=>.bool (n9 d)
def K4 (d:PyData) (lo hi:Int):Bool:=match d with | .int i=>decide (lo<=i)&&decide (i<=hi) | _=>false
def DB:FSp:=⟨fun xs _=>∃(d:PyData) (lo hi:Int),xs=[.d d,.d (.int lo),.d (.int hi)],fun xs M y M'=>∀(d:PyData) (lo hi:Int),xs=[.d d,.d (.int lo),.d (.int hi)]->y = .d (.bool (K4 d lo hi))/\M'=M⟩
theorem TN {d:PyData}{lo hi:Int}{M:Own}{Q:DS->Own->Prop}(q:Q (.d (.bool (K4 d lo hi))) M):[DS.d d,.d (.int lo),.d (.int hi)].length=3/\DB.pre [.d d,.d (.int lo),.d (.int hi)] M/\∀x M',DB.post [.d d,.d (.int lo),.d (.int hi)] M x M'->Q x M':=
 ⟨rfl,⟨d,lo,hi,rfl⟩,fun x M' h=>by obtain⟨rfl,rfl⟩:=h d lo hi rfl;exact q⟩
section
variable {K:Frg}{ρ:List (Option DS)}{M:Own}{D:EndsD}{t u:TS}
theorem DQ (P:List (Option DS)->Own->Prop) (h:DSt K t ρ M { D with nx:=P }) (h2:∀ρ1 M1,P ρ1 M1->DSt K u ρ1 M1 D):DSt K (kY t u) ρ M D:=
 bO (gU h (fun ρ' M' p=>h2 ρ' M' p) (fun _ _ q=>q) (fun _ _ q=>q) (fun _ _ q=>q))
end
def AS (z:Str):Prop:=1<=z.cps.size/\z.cps.size<=8/\∀c∈z.cps.toList,K3 c=true
theorem p64:(2:Int) ^ 64=18446744073709551616:=by decide
theorem cC {i j:Int}(h1 : -1000000000000000 < j) (h2:j < 1000000000000000):CMul i j:=by
 refine .inr ⟨?_,?_⟩ <;> rw[p64] <;> omega
theorem qT {M:Own}{a:Addr}{ds:List PyData}{k:Int}{j:Nat}{F:Addr->List PyData->Nat->Prop}(m:M a=some (.l ds)) (e:ixN ds.length k=some j) (q:F a ds j) :
   ∃a' ds' k' j',DS.loc a = .loc a'/\DS.d (.int k) = .d (.int k')/\M a'=some (.l ds')/\ixN ds'.length k'=some j'/\F a' ds' j':=⟨a,ds,k,j,rfl,rfl,m,e,q⟩
theorem qU {xs:List DS}{ds:List PyData}{Q:List PyData->Prop}(e:P1 xs=some ds) (h:ds.length<=sizeLine) (q:Q ds):∃ds,P1 xs=some ds/\ds.length<=sizeLine/\Q ds:=⟨ds,e,h,q⟩
theorem cD (n len:Nat):a4X none (some (n:Int)) 1 len=a0J (min n len):=by
 unfold a4X sliceRange
 have h1:¬((n:Int) < 0):=by omega
 have h2:max 0 (min (n:Int) (len:Int))=((min n len:Nat):Int):=by omega
 simp only[show(1:Int) > 0 by decide,if_true,h1,if_false,h2]
 have h3:(if (0:Int) < ((min n len:Nat):Int) then (((min n len:Nat):Int) - 0+1 - 1)/1 else 0).toNat=min n len:=by
   split
   · rw[Int.ediv_one];omega
   · omega
 rw[h3]
 apply b2V
 intro i
 rw[zF]
 by_cases h:i < min n len
 · simp[yA h]
 · simp[a5J (show(a0J (min n len)).length<=i by simp;omega)]
theorem Z1 (l:List Nat) (a:Array Nat) (m:Nat) (h:a.toList=l):(a0J m).filterMap (fun i=>a[i]?)=l.take m:=by
 induction m with
 | zero=>simp
 | succ m ih=>
   rw[List.range_succ,List.filterMap_append,ih,a4Z]
   have e:a[m]?=l[m]?:=by rw[← h];simp
   simp only[a1V,List.filterMap_nil,e]
   cases l[m]? <;> simp
theorem GA (z:Str) (n:Nat):(a0W z none (some (n:Int))).cps.toList=z.cps.toList.take n:=by
 unfold a0W
 rw[cD]
 have hl:z.length=z.cps.toList.length:=by simp[Str.length]
 split
 · rename_i h
   simp only[xZ,beq_self_eq_true,Bool.true_and,beq_iff_eq] at h
   rw[a8J (by rw[← hl];omega)]
 · show(List.filterMap _ _).toArray.toList=_
   rw[Z1 z.cps.toList z.cps _ rfl,List.toList_toArray,hl,b3Z]
   omega
theorem Z2 {z:Str}{n:Nat}{c:Nat}(h:c∈(a0W z none (some (n:Int))).cps.toList):c∈z.cps.toList:=by
 rw[GA] at h;exact a5V h
theorem AQ (x y:Str):(x++y).cps.toList=x.cps.toList++y.cps.toList:=by
 show(x.cps++y.cps).toList=_
 simp
theorem HP:(a0Q "abcdefghijklmnopqrstuvwxyz").length=26:=by decide +kernel
theorem cF {M:Own}{p A:Addr}{o o' x y:MO}(h:p≠A):(((M.put p o).put A x).put p o').put A y=(M.put p o').put A y:=by
 funext b
 unfold Own.put
 by_cases h1:b=A
 · simp[h1]
 · by_cases h2:b=p
   · simp[h2,h1,h]
   · simp[h1,h2]
theorem flt (l:List PyData):l.filter (fun _=>true)=l:=List.filter_eq_self.mpr (by simp)
theorem cG:(a0Q "abcdefghijklmnopqrstuvwxyz").cps.size=26:=by decide +kernel
theorem Q5 (z:Str) (l u:Option Int) {n:Nat}(h:z.length<=n):(a0W z l u).length<=n:=zN (Txt.slice_le z l u) h
theorem nA {c:Nat}(h:K3 c=true):c < 128:=by
 unfold K3 at h;simp at h;omega
theorem L3 (s:Str):s.cps.size=s.cps.toList.length:=by simp
end DL
namespace DL
open PySem PySem.Spec L2
def sl (a b:Str):Bool:=Spec.ltCps a.cps.toList b.cps.toList
theorem pR (a b:Str):decide (a.cps.toList < b.cps.toList)=sl a b:=PyProof.Rows.lt_meets a b
def Ris (ss:List Str):Prop:=ss.Pairwise fun a b=>sl a b=true
theorem BP {d:PyData}(h1:d.canLay0=true) (h2:d.depth<=64):zH d=true:=by
 unfold zH;rw[h1,decide_eq_true h2];rfl
theorem GB {ds:List PyData}(h:∀d∈ds,d.canLay0=true):b6K ds=true:=by
 induction ds with
 | nil=>rfl
 | cons d r ih=>rw[b6K,h d a2V,ih fun x hx=>h x (yV _ hx)];rfl
theorem L4 {ds:List PyData}{n:Nat}(h:∀d∈ds,d.depth<=n):a1Q ds<=n:=by
 induction ds with
 | nil=>simp[a1Q]
 | cons d r ih=>
   have h1:=h d a2V
   have h2:=ih fun x hx=>h x (yV _ hx)
   simp only[a1Q];omega
theorem ED {z:Str}(h:AS z):b9Z z=true:=by
 unfold b9Z
 rw[Array.all_eq_true']
 intro c hc
 have:=nA (h.2.2 c (by simpa using hc))
 simp;omega
theorem MG (ys:List Str):a0Z (.list (ys.map .str)) (.list [])=ys.isEmpty:=by
 cases ys with
 | nil=>rfl
 | cons y r=>simp[a0Z,PyData.eqvAll]
theorem NI:∀c∈(a0Q "abcdefghijklmnopqrstuvwxyz").cps.toList,K3 c=true:=by decide +kernel
theorem VY:(a0Q "abcdefghijklmnopqrstuvwxyz").cps.toList.Nodup:=by decide +kernel
end DL
namespace DL
open PySem PySem.Spec L2
theorem sIx_nat (n d k:Nat):HT.sIx n d (some (k:Int))=min k n:=HT.sIx_nat n d k
theorem HQ (xs:List PyData) (k:Nat):CT xs (some (k:Int)) none=xs.drop k:=by
 unfold CT
 rw[sIx_nat]
 show(xs.drop (min k xs.length)).take (xs.length - min k xs.length)=_
 rw[a8J (by rw[a3V];omega)]
 by_cases h:k<=xs.length
 · rw[a9W h]
 · rw[b3K (by omega),a3K (zR _),a3K (by omega)]
theorem nB (xs:List PyData) (k:Nat):CT xs none (some (k:Int))=xs.take k:=by
 unfold CT
 rw[sIx_nat]
 show(xs.drop 0).take (min k xs.length - 0)=_
 rw[List.drop_zero,Nat.sub_zero,b3Z];omega
theorem MY (xs:List PyData) (a b:Nat):CT xs (some (a:Int)) (some (b:Int))=(xs.take b).drop a:=by
 unfold CT
 rw[sIx_nat,sIx_nat,List.drop_take]
 by_cases h:a<=xs.length
 · rw[a9W h,b3Z,a3V];omega
 · rw[a3K (show xs.length<=min a xs.length by omega),a3K (show xs.length<=a by omega)];simp
def fn2 (pre:PyData->PyData->Prop) (f:PyData->PyData->PyData):FSp:=⟨fun xs _=>∃a b,xs=[.d a,.d b]/\pre a b,fun xs M y M'=>∀a b,xs=[.d a,.d b]->y = .d (f a b)/\M'=M⟩
theorem NJ {pre:PyData->PyData->Prop}{f:PyData->PyData->PyData}{a b:PyData}{M:Own}{Q:DS->Own->Prop}(p:pre a b) (q:Q (.d (f a b)) M):[DS.d a,.d b].length=2/\(fn2 pre f).pre [.d a,.d b] M/\∀x M',(fn2 pre f).post [.d a,.d b] M x M'->Q x M':=
 ⟨rfl,⟨a,b,rfl,p⟩,fun x M' h=>by obtain⟨rfl,rfl⟩:=h a b rfl;exact q⟩
def BX:PyData->Str | .str z=>z | _=>⟨#[]⟩
abbrev Th:=Str×Int×Int
def thD (t:Th):PyData:=.tuple [.str t.1,.int t.2.1,.int t.2.2]
def wD (w:List Th):PyData:=.tuple (w.map thD)
end DL
namespace DL
open PySem PySem.Spec L2
section
variable {K:Frg}{ρ:List (Option DS)}{M:Own}{g:TG}{wi:TI}
theorem GC {fr:List (Option Nat)}{tt:TT}{te:TE}{T:List Nat}{Q:DS->Own->Prop}(ho:HK g T) (hT:∀i∈T,∀j,fr[i]?≠some (some j))
   (h:DI K wi ρ M fun ds M1=>ds.length < sizeLine/\∃(c:PyData->Bool) (f:PyData->PyData),(∀d∈ds,∀A acc M',M1 A=none->M'=M1.put A (.l acc)->DG K g d (EB fr ρ) M' fun ρ2 M2=>M2=M'/\DT K tt ρ2 M2 fun b M3=>M3=M'/\b=c d/\(c d=true->DE K te ρ2 M3 fun y M4=>y = .d (f d)/\M4=M'))/\Q (.d (.list ((ds.filter c).map f))) M1) :
   DE K (LQ fr wi g tt te) ρ M Q:=by
 refine RJ ho hT fun σ H R Rl k=>h σ H R Rl fun J ds H1 M1 o1 t1 wd q=>k J ds H1 M1 o1 t1 wd ?_
 obtain⟨hsz,c,f,he,q⟩:=q
 refine⟨hsz,fun A hA=>⟨fun k acc M'=>acc=((ds.take k).filter c).map f/\M'=M1.put A (.l acc),⟨by simp,rfl⟩,fun k acc M' ⟨e1,e2⟩=>⟨by rw[e2];exact zU,?_⟩,fun k d acc M' hd ⟨e1,e2⟩=>?_,fun acc M' ⟨e1,e2⟩=>?_⟩⟩
 · rw[e1,zX]
   exact zN (yJ _ _) (by rw[a2X];omega)
 · have hm:d∈ds:=yN hd
   intro σ H v QQ R dv kk
   refine he d hm A acc M' hA e2 σ H v QQ R dv fun ρ' M2 σ' H' R' st ⟨eM,q2⟩=>kk ρ' M2 σ' H' R' st fun σ2 H2 QQ2 R2 k2=>?_
   refine q2 σ2 H2 QQ2 R2 fun b H3 M3 o3 st3 ⟨eM3,eb,q3⟩=>k2 b H3 M3 o3 st3 ?_
   have ts:(ds.take (k+1)).filter c=(ds.take k).filter c++(if c d then [d] else []):=take_succ_filter c ds k d hd
   cases hb:c d with
   | false=>
     rw[hb] at eb
     subst eb
     refine L2.bH ⟨?_,by rw[eM3,e2]⟩
     rw[ts,hb,e1];simp
   | true=>
     rw[hb] at eb
     subst eb
     refine L2.YT ?_
     refine RI (q3 hb) fun y M4 ⟨ey,e4⟩=>⟨f d,ey,by rw[e4,e2];exact zU,?_,by rw[e4,e2,yI]⟩
     rw[ts,hb,e1];simp
 · rw[e2,yG hA,e1,a3X]
   exact q
end
theorem TQ {as bs:List Str}(h:as.map a0K=bs.map a0K):as=bs:=by
 have:=congrArg (List.map BX) h
 rw[zD,zD] at this
 simpa [show(BX∘a0K)=id from rfl] using this
theorem RT {K:Frg}{ρ:List (Option DS)}{M:Own}{D:EndsD}{te:TE}{g:TG}(h:DE K te ρ M fun x M1=>∃d,x = .d d/\DG K g d ρ M1 D.nx):DSt K (fU te g) ρ M D:=fun σ H E R k1 _ _ _=>
 h σ H _ R fun v H' x M' a b c q=>by
   obtain⟨d,rfl,q⟩:=q
   exact q σ H' v _ (R.step a c) b fun ρ2 M2 σ2 H2 R2 st2 p=>k1 ρ2 M2 σ2 H2 R2 (c.trans st2) p
theorem cH {X:Cx}:MtR X "list.append" R6:=KY
end DL
namespace L2
open PySem PySem.Spec PyProof.Rows
def EntS (w:World):List DictEntry->List (Str×Str)->Prop
 | [],[]=>True
 | e::es,kv::r=>e.hash=hashStr w kv.1/\(∃t,e.key = .str kv.1 t)/\(∃t,e.val = .str kv.2 t)/\EntS w es r
 | _,_=>False
def GDict (w:World) (K:Frg) (a:Addr) (kvs:List (Str×Str)):Prop:=
 (a==sysModules)=false/\(kvs.map (·.1)).Nodup/\∃es ep,K.lookup a=some { cls:=.type "dict", data:=.dict es ep }/\EntS w es.toList kvs
theorem EntS.pairs {P:Program}{w:World}:∀{es:List DictEntry}{kvs:List (Str×Str)},EntS w es kvs->∃vs:List (Key×Value),Pairs (AK P w) es vs/\KV (kvs.map fun kv=>((a0V kv.1:Key),V.str kv.2)) vs/\vs.map (·.1)=kvs.map (fun kv=>(a0V kv.1:Key))/\∀e∈es,∃k,(AK P w).is k e.key=true/\e.hash=(AK P w).hash k
 | [],[],_=>⟨[],.nil,.nil,rfl,by simp⟩
 | e::es,kv::r,⟨h1,⟨t,h2⟩,⟨t',h3⟩,h4⟩=>by
   obtain⟨vs,a,b,c,d⟩:=EntS.pairs (P:=P) h4
   have hk:(AK P w).is (a0V kv.1) e.key=true:=by rw[h2];exact LN P w kv.1 t
   refine⟨(a0V kv.1,e.val)::vs,.cons hk rfl a,.cons ⟨rfl,⟨t',h3⟩⟩ b,by rw[zI,zI,c],fun x hx=>?_⟩
   rcases yX.mp hx with rfl | hx
   · exact⟨_,hk,h1⟩
   · exact d x hx
section
variable {X:Cx}{pins:List (Addr×Obj)}{σ:St}{H:Hp}{s:Shared}
theorem GDict.at {a:Addr}{kvs:List (Str×Str)}(g:GDict X.w X.K a kvs) (I:Inv X pins σ H s):∃vs,KV (kvs.map fun kv=>((a0V kv.1:Key),V.str kv.2)) vs/\s.heap.DictOf (AK X.prog X.w) a vs:=by
 obtain⟨_,nd,es,ep,hk,he⟩:=g
 obtain⟨vs,p1,p2,p3,p4⟩:=he.pairs (P:=X.prog)
 refine⟨vs,p2,_,es,ep,I.kIn a _ hk,⟨rfl,rfl,rfl⟩,rfl,fun e he=>p4 e (by simpa using he),p1,?_⟩
 rw[p3]
 have:kvs.map (fun kv=>(a0V kv.1:Key))=(kvs.map (·.1)).map a0V:=by rw[zD];rfl
 rw[this]
 unfold List.Nodup
 rw[a6X]
 exact nd.imp fun {a b} q e=>q (by injection e)
def k8 (kvs:List (Str×Str)) (ty:TE):TE:=fun σ H Q=>ty σ H fun y H1=>∃k:Str,y = .str k/\Q (((kvs.lookup k).map V.str).getD .non) H1
theorem TR (kvs:List (Str×Str)) (k:Str):G7 (kvs.map fun kv=>((a0V kv.1:Key),V.str kv.2)) (a0V k)=(kvs.lookup k).map V.str:=by
 induction kvs with
 | nil=>rfl
 | cons kv r ih=>
   obtain⟨a,b⟩:=kv
   unfold G7 at ih ⊢
   rw[zI,a7Q,a2K]
   by_cases h:a=k
   · subst h;simp
   · have h1:decide ((a0V a:Key)=a0V k)=false:=decide_eq_false fun e=>h (by injection e)
     have h2:(k==a)=false:=by simpa using fun e=>h e.symm
     simp only[h1,h2]
     exact ih
theorem iF {x:Str}{p apos cpos:Pos}{e:Expr}{ty:TE}{kvs:List (Str×Str)}(hg:Gl X x) (hm:∃a,X.mg x=some (.ref a)/\GDict X.w X.K a kvs) (he:PE X e ty) (m:M1 X (.Name x p) "get" apos e cpos) (hd:(x==("__debug__":Str))=false:=by decide) :
   PE X (.Call (.Attribute (.Name x p) "get" apos) [e] [] cpos) (k8 kvs ty):=by
 obtain⟨a,hm,g⟩:=hm
 intro pins s σ H Q I h
 refine wpAny_Call_method m.base m.few m.line b7X a8W PySem.F.type_dict_get (QU I hg hm ?_ hd)
 obtain⟨vs,rel,dd⟩:=g.at I
 refine⟨dd.typeIs,fun b q=>?_,?_⟩
 · cases q
   obtain⟨ob,_,_,h1,h2,_⟩:=dd
   exact⟨ob,h1,h2.2.1⟩
 rw[m.trees]
 refine b2J rfl (Calls.evalArgs_plain (xP (thn (he pins s σ H _ I h) fun iv s2 ⟨y,H2,I2,ry,k,ey,q2⟩=>Calls.spliced_nil ?_)))
 subst ey
 obtain⟨vs',rel',dd'⟩:=g.at I2
 refine call_meetsIn a8W dd'.typeIs b8X (PySem.F.args_dict_get_2 _ _) (meets_dict_get (AK X.prog X.w) a (LP (k:=a0V k) ry) g.1) ⟨_,dd'.mapOf,?_⟩
 refine⟨_,H2,I2.tok _,?_,q2⟩
 have:=(rel'.val (a0V k)).getD (show RelV .non .none from rfl)
 rw[TR] at this
 exact this
def nC (K:Frg) (a:Addr) (ss:List Str):Prop:=∃(its:Array Value) (n:Nat),K.lookup a=some { cls:=.type "tuple", data:=.seq its n }/\its.size<=sizeLine/\StrsAre its.toList ss
end
end L2
namespace DL
open PySem PySem.Spec L2
section
variable {K:Frg}{ρ:List (Option DS)}{M:Own}{Q:DS->Own->Prop}{ty:TE}
def Z3:Option Str->PyData | some z=>.str z | none=>.none
theorem iG {kvs:List (Str×Str)}(h:DE K ty ρ M fun y M1=>∃k,y = .d (.str k)/\Q (.d (Z3 (kvs.lookup k))) M1):DE K (k8 kvs ty) ρ M Q:=fun σ H QQ R k=>
 h σ H _ R fun v H1 x M1 o1 s1 t1 h1=>by
   obtain⟨z,rfl,q⟩:=h1
   refine⟨z,BC s1,?_⟩
   cases e:kvs.lookup z with
   | none=>rw[e] at q;exact k _ H1 (.d .none) M1 o1 (by unfold SI DV;rfl) t1 q
   | some y=>rw[e] at q;exact k _ H1 (.d (.str y)) M1 o1 FI t1 q
theorem iH {X:Cx}{x:Str}{a:Addr}{pos:Pos}(hg:Gl X x) (hm:X.mg x=some (.ref a)) (hd:(x==("__debug__":Str))=false:=by decide):PE X (.Name x pos) (tC (.ref a)):=fN hg hm rfl hd
theorem iI {a:Addr}{ss:List Str}(g:nC K a ss) (q:Q (.d (.tuple (ss.map .str))) M):DE K (tC (.ref a)) ρ M Q:=fun σ H QQ R k=>by
 obtain⟨its,n,hk,hz,hs⟩:=g
 refine k _ H (.d (.tuple (ss.map .str))) M R.own ?_ Step.refl q
 unfold SI DV
 exact⟨a,ss.map V.str,rfl,.inr ⟨_,its,n,hk,rfl,rfl,hz,XH hs⟩,HL⟩
theorem cI {neg:Bool}{x:Str}{ys:List Str}(q:Q (.d (.bool (if neg then !decide (x∈ys) else decide (x∈ys)))) M):D2 K (rIn K neg) (.d (.str x)) (.d (.tuple (ys.map .str))) M Q:=fun H v u QQ oa s1 s2 k=>by
 rw[BC s1]
 unfold SI DV at s2
 obtain⟨a,vs,rfl,hl,hd⟩:=s2
 have e:=JZ hd
 subst e
 exact⟨a,_,rfl,.inr hl.sq,rfl,by simp[IT],k _ H (.d (.bool (if neg then !decide (x∈ys) else decide (x∈ys)))) M oa (by rw[TK];exact AT) Step.refl q⟩
theorem MZ {x:Str}{ys:List Str}(q:Q (.d (.bool (decide (x∈ys)))) M):D2 K (hU K) (.d (.str x)) (.d (.tuple (ys.map .str))) M Q:=F8 (cI (neg:=false) q)
theorem cJ {x:Str}{ys:List Str}(q:Q (.d (.bool (!decide (x∈ys)))) M):D2 K (RL K) (.d (.str x)) (.d (.tuple (ys.map .str))) M Q:=F8 (cI (neg:=true) q)
end
end DL
namespace L2
open PySem PySem.Spec PyProof.Rows
section
variable {X:Cx}
def RU:V->List V->Hp->VK->Prop:=fun v vs H Q=>∃x y,v = .str x/\vs=[.str y]/\Q (.bl (Txt.startswith x y)) H
theorem Z4:MtR X "str.startswith" RU:=by
 intro pins s σ H x xs v us Q I rx rv h
 obtain⟨y,z,rfl,rfl,q⟩:=h
 obtain⟨t,rfl⟩:=rx
 obtain⟨u,rfl,t',rfl⟩:=DZ rv
 exact SC.startswith ⟨.bl _,H,I,rfl,q⟩
def MH (z:Str) (n:Int):Str:=if (n==1||z.length==0)=true then z else ⟨(a3Z n.toNat z.cps).foldl (·++·) #[]⟩
def XJ:R2:=fun x y H Q=>(rI (fun i j=>IntMulOk i j) fun i j=>.int (i*j)) x y H Q∨∃z n,x = .str z/\y = .int n/\1<=n/\n<=8/\z.length<=1000/\Q (.str (MH z n)) H
theorem TU (a:Array Nat):∀(n:Nat) (b:Array Nat),(List.foldl (fun x1 x2=>x1++x2) b (a3Z n a)).size=b.size+n*a.size
 | 0,b=>by simp
 | n+1,b=>by
   rw[b1J,List.foldl_cons,TU a n,Array.size_append,Nat.succ_mul];omega
theorem NK (a:Array Nat):∀(n:Nat) (b:Array Nat),(List.foldl (fun x1 x2=>x1++x2) b (a3Z n a)).toList=b.toList++(a3Z n a.toList).flatten
 | 0,b=>by simp
 | n+1,b=>by
   rw[b1J,List.foldl_cons,NK a n,b1J];simp
theorem iJ:OpR X (binaryOp .Mult) XJ:=by
 intro pins s σ H x y v u Q I rx ry h
 rcases h with h | ⟨z,n,rfl,rfl,h1,h2,h3,q⟩
 · exact(opI (C:=fun i j=>IntMulOk i j) fun _ _ _ _ _ _ _ hc q=>mul_int q hc) pins s σ H x y v u Q I rx ry h
 · obtain⟨t,rfl⟩:=rx
   obtain⟨t',rfl⟩:=ry
   have hp:(2:Int) ^ 63=9223372036854775808:=by decide
   refine P.mul_str ?_ (fun _ _=>?_) (fun _ _=>?_) ?_
   · rw[decide_eq_false (Int.not_lt.mpr (Int.le_trans (by decide) h1)),decide_eq_false (Int.not_le.mpr (Int.lt_of_le_of_lt h2 (by decide)))];rfl
   · rw[hp]
     have h5:(1000:Int)<=(9223372036854775808 - 1)/n:=Int.le_ediv_of_mul_le (Int.lt_of_lt_of_le (by decide) h1) (Int.le_trans (Int.mul_le_mul_of_nonneg_left h2 (by decide)) (by decide))
     exact fun hc=>absurd (Int.lt_of_le_of_lt h5 hc) (Int.not_lt.mpr (Int.ofNat_le.mpr h3))
   · have hm:z.length*n.toNat<=1000*1000:=Nat.mul_le_mul h3 (by omega)
     unfold Builtin.Str.tooLong
     rw[decide_eq_false]
     exact fun hc=>absurd (zP hc hm) (by decide)
   · rw[if_neg (by omega)]
     have q':=q
     unfold MH at q'
     split
     · rename_i e
       rw[if_pos e] at q'
       exact⟨.str z,H,I,⟨_,rfl⟩,q'⟩
     · rename_i e
       rw[if_neg e] at q'
       refine⟨?_,⟨.str _,H,I.tok _,⟨_,rfl⟩,q'⟩⟩
       show(List.foldl (fun x1 x2=>x1++x2) #[] (a3Z n.toNat z.cps)).size<=sizeLine
       rw[TU]
       have hm:(#[]:Array Nat).size+n.toNat*z.cps.size<=8*1000:=by
         rw[show(#[]:Array Nat).size=0 from rfl,b6W]
         exact Nat.mul_le_mul (by omega) h3
       exact zN hm (by decide)
end
end L2
namespace DL
open PySem PySem.Spec L2
section
variable {X:Cx}{K:Frg}
theorem TV (_:X.K=K):MtR X "str.startswith" RU:=Z4
theorem nD (_:X.K=K):OpR X (binaryOp .Mult) XJ:=iJ
def k9:List V->Hp->VK->Prop:=fun xs H Q=>(∃i,xs=[.int i]/\Q (.int i) H)∨∃k,xs=[.bl k]/\Q (.int (if k then 1 else 0)) H
def XM:List V->Hp->VK->Prop:=fun xs H Q=>∃i j,xs=[.int i,.int j]/\oT i j/\∀p,H p=none->Q (.ref p) (upd H p (.tup [.int (i/j),.int (i % j)]))
theorem qV (_:X.K=K):B6 X (.type "int") k9:=YM
theorem iK (_:X.K=K):B6 X (.builtin "divmod") XM:=T8
end
section
variable {K:Frg}{ρ:List (Option DS)}{M:Own}{Q:DS->Own->Prop}
theorem Z5 {x y:Str}(q:Q (.d (.bool (Txt.startswith x y))) M):DM K RU (.d (.str x)) [.d (.str y)] M Q:=fun H v vs QQ oa s1 s2 k=>by
 obtain⟨u,r,rfl,h1,h2⟩:=s2
 cases h2
 rw[BC s1,BC h1]
 exact⟨x,y,rfl,rfl,k _ H _ M oa AT Step.refl q⟩
theorem cK {i j:Int}(c:IntMulOk i j) (q:Q (.d (.int (i*j))) M):D2 K XJ (.d (.int i)) (.d (.int j)) M Q:=fun H v u QQ oa s1 s2 k=>by
 rw[BB s1,BB s2]
 exact .inl ⟨i,j,rfl,rfl,c,k _ H _ M oa C7 Step.refl q⟩
theorem nE {z:Str}{n:Int}(h1:1<=n) (h2:n<=8) (h3:z.length<=1000) (q:Q (.d (.str (MH z n))) M):D2 K XJ (.d (.str z)) (.d (.int n)) M Q:=fun H v u QQ oa s1 s2 k=>by
 rw[BC s1,BB s2]
 exact .inr ⟨z,n,rfl,rfl,h1,h2,h3,k _ H _ M oa FI Step.refl q⟩
theorem iL {b:Bool}(q:Q (.d (.int (if b then 1 else 0))) M):DR K k9 [.d (.bool b)] M Q:=fun H vs QQ oa s k=>by
 obtain⟨v,r,rfl,h1,h2⟩:=s
 cases h2
 rw[jY h1]
 exact .inr ⟨b,rfl,k _ H _ M oa C7 Step.refl q⟩
theorem Z6 {i j:Int}(h0:0 < j) (hj:j < 1073741824) (q:Q (.d (.tuple [.int (i/j),.int (i % j)])) M):DR K XM [.d (.int i),.d (.int j)] M Q:=fun H vs QQ oa s k=>by
 obtain⟨v,r,rfl,h1,v2,r2,rfl,h2,h3⟩:=s
 cases h3
 rw[BB h1,BB h2]
 refine⟨i,j,rfl,⟨h0,hj⟩,fun p hp=>?_⟩
 have g:Grow K M.W M.W H (upd H p (.tup [.int (i/j),.int (i % j)])):=AR _ hp
 refine k _ _ (.d (.tuple [.int (i/j),.int (i % j)])) M (oa.new hp) ?_ ⟨g⟩ q
 unfold SI DV
 exact⟨p,_,rfl,.inl ⟨fun w=>w (oa.none hp),.inl AE⟩,DVs.cons (by unfold DV;rfl) (DVs.cons (by unfold DV;rfl) DVs.nil)⟩
theorem cL {g:TGs}{to ti:TE}{d:PyData}{ds:List PyData}{P:List (Option DS)->Own->Prop}
   (h:DE K to ρ M fun o M1=>DE K ti ρ M1 fun i M2=>∃a xs k j,o = .loc a/\i = .d (.int k)/\M2 a=some (.l xs)/\ixN xs.length k=some j/\DGs K g ds ρ (M2.put a (.l (xs.set j d))) P) :
   DGs K (X3 (oO to ti jS) g) (d::ds) ρ M P:=fun σ H vs QQ R hd kk=>by
 unfold DVs at hd
 obtain⟨v,r,rfl,h1,h2⟩:=hd
 refine⟨v,r,rfl,h σ H _ R fun w H2 y M2 o2 s2 t2 h3=>h3 σ H2 _ (R.step o2 t2) fun u H3 z M3 o3 s3 t3 h4=>?_⟩
 obtain⟨a,xs,k,j,rfl,rfl,m,hj,q⟩:=h4
 rw[BB s3]
 have e:=s2.step t3
 unfold SI at e
 subst e
 obtain⟨vs,h0,hd'⟩:=o3 a _ m
 have t23:=t2.trans t3
 obtain⟨p1,p2⟩:=FH o3 m (hd'.set j (DV.grow t23.grow h1))
 have st:=t23.trans p2
 exact⟨a,vs,k,j,rfl,rfl,h0,by rw[hd'.length];exact hj,q σ _ r _ (R.step p1 st) (DVs.grow st.grow h2) fun ρ' M' σ' H' R' st' p=>kk ρ' M' σ' H' R' (st.trans st') p⟩
end
end DL
namespace L2
open PySem PySem.Spec PyProof.Rows PySem.W
theorem RV {ns:List Int}(h:WData.layableAll [WData.list (ns.map WData.int)]=true):∀i∈ns,xJ i<=2 ^ 20:=by
 have h1:WData.weightAll (ns.map WData.int)<=2 ^ 20:=by
   have h0:WData.layable (WData.list (ns.map WData.int))=true:=by
     unfold WData.layableAll at h
     simpa using h
   unfold WData.layable at h0
   rw[a1Z] at h0
   exact of_decide_eq_true h0.2
 intro i hi
 refine zN ?_ h1
 clear h h1
 induction ns with
 | nil=>cases hi
 | cons n r ih=>
   rw[zI]
   show _<=WData.weight (.int n)+1+WData.weightAll (r.map WData.int)
   rcases yX.mp hi with rfl | hi
   · have:WData.weight (.int i)=xJ i:=rfl
     omega
   · have:=ih hi
     omega
theorem cM {l:PySem.W.OpenLaw}{n k:Nat}{q:Program}{loose:List Str}{XP:(Str->Option Value)->Heap->Prop}{YP:World->Heap->Prop}{d:DefRec}{K:Params->Frg}{CX:World->CXT}{sp:World->Sp}{x:Str}
   (hn:l.most=some n) (hn2:n<=sizeLine) (hdf:d.params.defaults=[]) (hr:Room k callerA)
   (hY:∀(w:World) (h:Heap),YP w h->(K w.params).In h)
   (F:∀(w:World) (mg:Str->Option Value) (fa:Addr) (h:Heap),(K w.params).In h->h.Ns mainGlobals mg->mg d.name=some (.ref fa) ->
     ∃fd:FuncData,(∀(s:Shared) (u:Value),BindsTo s fd ⟨[u],[]⟩ [(x,u)]) /\
       ∀base:Heap,(K w.params).In base->base.Ns mainGlobals mg->FnOk l.prog w (K w.params) mg base (CX w) k fa fd [x] (sp w))
   (hsp:∀(w:World) (H:Hp) (a:Addr) (ns:List Int),ns.length<=n->(∀i∈ns,xJ i<=2 ^ 20)->lZ H->SqL (K w.params) H a (ns.map V.int)->sp w [.ref a] H (fun v _=>v = .bl true) fun _ _ _=>False)
   (hCX:∀(w:World) (H:Hp) (s:Shared) (e:Value) (s':Shared),CX w [] H s (fun _ _ _=>False) e s'->False) :
   PySem.W.WalkO q loose XP YP l.row.toRowW d [] (fun f vs=>PySem.call f vs):=by
 intro w s₀ s₁ mg mb G Y fa o pm cd doc dV kV ho hd hcd hD hmg hg args vals as hpre hlay hrd hwl hlo
 have e1:dV = .none:=Dflts.none hD hdf
 subst e1
 have e2:kV = .none:=Dflts.noKw hD
 subst e2
 obtain⟨a,vs,ns,rfl,rfl,hobj,hints,hlen⟩:=Att.script_of hn hpre hwl
 have hbits:=RV hlay
 refine enter_call (codeAny_mono (R:=fun r s'=>r = .ok (.ret (.bool true))/\OldK s₁.heap s'.heap/\s'.os=s₁.os/\AllBare s'.gens) ?_ fun r s' hq=>?_)
 · have KX:=hY w _ Y
   obtain⟨fd,hb,hF⟩:=F w mg fa _ KX G.T.g hmg
   exact bG KX G.T.g G.T.b G.T.builtins G.T.nolimit hg hobj hints (zN hlen hn2) hr hF hb (fun H hO hS=>hsp w H a ns hlen hbits hO hS) fun H e s'=>hCX w H s₁ e s'
 · have h1:=hq.1
   subst h1
   exact⟨.inl ⟨.bool true,.bool true,[],rfl,fun _=>rfl,.bool true,Att.post_true l _,fun _=>⟨List.Pairwise.nil,fun _ hm=>(nomatch hm)⟩⟩,hq.2.1,hq.2.2.1,hq.2.2.2⟩
end L2
namespace DL
open PySem PySem.Spec L2
theorem NL (i m:Nat) (a:Array Nat):((a0J m).map (i+·)).filterMap (fun j=>a[j]?)=(a.toList.drop i).take m:=by
 induction m with
 | zero=>simp
 | succ m ih=>
   rw[List.range_succ,xI,List.filterMap_append,ih,a4Z]
   have e:a[i+m]?=(a.toList.drop i)[m]?:=by rw[List.getElem?_drop];simp
   simp only[zI,a5Z,a1V,List.filterMap_nil,e]
   cases (a.toList.drop i)[m]? <;> simp
theorem VZ (n len:Nat):max 0 (min (n:Int) (len:Int))=((min n len:Nat):Int):=by
 rcases Nat.le_total n len with h | h
 · rw[a9W h,Int.min_eq_left (Int.ofNat_le.mpr h),Int.max_eq_right (a8V _)]
 · rw[b3K h,Int.min_eq_right (Int.ofNat_le.mpr h),Int.max_eq_right (a8V _)]
theorem cN (a b:Nat):(if (a:Int) < (b:Int) then ((b:Int) - (a:Int)+1 - 1)/1 else 0).toNat=b - a:=by
 split
 · rw[Int.ediv_one];omega
 · omega
theorem cO (n len:Nat):a4X (some (n:Int)) none 1 len=(a0J (len - min n len)).map (min n len+·):=by
 unfold a4X sliceRange
 have h1:¬((n:Int) < 0):=Int.not_lt.mpr (a8V n)
 have h2:=VZ n len
 simp only[show(1:Int) > 0 by decide,if_true,h1,if_false,h2]
 have h3:(if ((min n len:Nat):Int) < (len:Int) then ((len:Int) - ((min n len:Nat):Int)+1 - 1)/1 else 0).toNat=len - min n len:=cN _ _
 rw[h3]
 apply yM
 intro i hi
 omega
theorem iM (n k len:Nat):a4X (some (n:Int)) (some (k:Int)) 1 len=(a0J (min k len - min n len)).map (min n len+·):=by
 unfold a4X sliceRange
 have h1:¬((n:Int) < 0):=Int.not_lt.mpr (a8V n)
 have h1':¬((k:Int) < 0):=Int.not_lt.mpr (a8V k)
 have h2:=VZ n len
 have h2':=VZ k len
 simp only[show(1:Int) > 0 by decide,if_true,h1,h1',if_false,h2,h2']
 have h3:(if ((min n len:Nat):Int) < ((min k len:Nat):Int) then (((min k len:Nat):Int) - ((min n len:Nat):Int)+1 - 1)/1 else 0).toNat=min k len - min n len:=cN _ _
 rw[h3]
 apply yM
 intro i hi
 omega
theorem GD (z:Str) (n:Nat):(a0W z (some (n:Int)) none).cps.toList=z.cps.toList.drop n:=by
 unfold a0W
 rw[cO]
 have hl:z.length=z.cps.toList.length:=by simp[Str.length]
 split
 · rename_i h
   rw[a1Z] at h
   have h:=eq_of_beq h.2
   rw[zX,xZ] at h
   have h0:n=0∨z.cps.toList.length=0:=by rw[hl] at h;omega
   rcases h0 with rfl | h0
   · simp
   · rw[List.length_eq_zero_iff.mp h0];simp
 · show(List.filterMap _ _).toArray.toList=_
   rw[NL,List.toList_toArray,hl]
   by_cases h:n<=z.cps.toList.length
   · rw[a9W h,a8J (by rw[a3V];exact zR _)]
   · rw[b3K (by omega),a3K (zR _),a3K (by omega)];simp
theorem Z7 (z:Str) (n k:Nat):(a0W z (some (n:Int)) (some (k:Int))).cps.toList=(z.cps.toList.take k).drop n:=by
 unfold a0W
 rw[iM]
 have hl:z.length=z.cps.toList.length:=by simp[Str.length]
 have key:(z.cps.toList.drop (min n z.length)).take (min k z.length - min n z.length)=(z.cps.toList.take k).drop n:=by
   rw[hl,List.drop_take]
   by_cases h:n<=z.cps.toList.length
   · rw[a9W h,b3Z,a3V]
     rcases Nat.le_total k z.cps.toList.length with h' | h'
     · rw[a9W h']
     · rw[b3K h',Nat.min_self,b3K (Nat.sub_le_sub_right h' n)]
   · rw[a3K (show z.cps.toList.length<=min n z.cps.toList.length by omega),a3K (show z.cps.toList.length<=n by omega)];simp
 split
 · rename_i h
   rw[a1Z] at h
   have h:=eq_of_beq h.2
   rw[zX,xZ] at h
   rw[← key]
   have h5:=Nat.min_le_right k z.length
   have h0:min n z.length=0∨z.cps.toList.length=0:=by
     rw[← hl]
     revert h h5
     generalize min k z.length=a
     generalize min n z.length=b
     omega
   rcases h0 with h0 | h0
   · have h6:z.cps.toList.length<=min k z.length - 0:=by rw[← hl];rw[h0] at h;exact Nat.le_of_eq h.symm
     rw[h0,List.drop_zero,a8J h6]
   · rw[List.length_eq_zero_iff.mp h0];simp
 · show(List.filterMap _ _).toArray.toList=_
   rw[NL,List.toList_toArray,key]
theorem W0 {i N:Nat}(h:i < N) (hN:N<=26):i/8 < 26:=zQ (Nat.div_le_self i 8) (zP h hN)
theorem JM (k:Nat):(1:Int)<=1+(k:Int) % 8/\1+(k:Int) % 8<=8/\1<=(1+(k:Int) % 8).toNat/\(1+(k:Int) % 8).toNat<=8:=by
 have e:(k:Int) % 8=((k % 8:Nat):Int):=rfl
 rw[e]
 have:=Nat.mod_lt k (show 8 > 0 by decide)
 clear e
 generalize k % 8=r at *
 omega
theorem pS {i j:Nat}(h1:(1:Int)+(i:Int) % 8=1+(j:Int) % 8) (h2:i/8=j/8):i=j:=by
 have a:=Nat.div_add_mod i 8
 have b:=Nat.div_add_mod j 8
 have c:i % 8=j % 8:=by
   have:=Int.add_left_cancel h1
   exact Int.ofNat.inj this
 rw[← a,← b,h2,c]
theorem nG {t:Nat}(h:t<=26):26 - t+min t 26=26:=by rw[a9W h,Nat.sub_add_cancel h]
theorem nH {s L:Nat}(h:s<=7):min (3+s) L - 3<=7:=zN (Nat.sub_le_sub_right (Nat.min_le_left _ _) 3) (by rw[Nat.add_sub_cancel_left];exact h)
def W1 (z:Str):Prop:=∀c∈z.cps.toList,K3 c=true
theorem NM {z:Str}(h:W1 z) (h1:1<=z.cps.toList.length) (h2:z.cps.toList.length<=8):AS z:=⟨by rw[L3];exact h1,by rw[L3];exact h2,h⟩
theorem NN {a b:Str}(h1:W1 a) (h2:W1 b):W1 (a++b):=fun c hc=>by
 rw[AQ] at hc
 exact(yW.mp hc).elim (h1 c) (h2 c)
theorem TX {c:Nat}(h:K3 c=true):W1 ⟨#[c]⟩:=fun d hd=>by
 have:d=c:=by simpa using hd
 subst this;exact h
theorem RW {c:Nat}{n:Int}(h1:1<=n):(MH ⟨#[c]⟩ n).cps.toList=a3Z n.toNat c:=by
 unfold MH
 split
 · rename_i h
   have:n=1:=by
     rw[Bool.or_eq_true,beq_iff_eq,beq_iff_eq] at h
     rcases h with h | h
     · exact h
     · exact absurd h (show ¬(1=0) by decide)
   subst this;rfl
 · show(List.foldl _ _ _:Array Nat).toList=_
   rw[NK]
   show []++(a3Z n.toNat [c]).flatten=_
   rw[List.nil_append]
   induction n.toNat with
   | zero=>rfl
   | succ m ih=>rw[b1J,List.flatten_cons,ih,b1J];rfl
end DL
namespace L2
open PySem PySem.Spec PyProof.Rows
abbrev EE (F:List Addr) (S:Heap->Prop):Prop:=∀h h':Heap,S h->(∀c∈F,∀o,h.get? c=some o->h'.get? c=some o)->S h'
abbrev NxI (P:Program) (w:World) (A:Around) (i:Addr) (S S':Heap->Prop) (R:Value->Prop):Prop:=
 ∀(s:Shared) (Q:Value->Shared->Prop) (E:Value->Shared->Prop),S s.heap->(∀h' tk x,R x->S' h'->Heap.SameBut i s.heap h'->Q x { s with heap:=h',toks:=tk })->wpAny (model P w) A (a1W (.ref i)) Q E s
abbrev NxE (P:Program) (w:World) (A:Around) (i:Addr) (S:Heap->Prop):Prop:=
 ∀(s:Shared) (Q:Value->Shared->Prop) (E:Value->Shared->Prop),S s.heap->(∀h' e,Heap.ExtBut i s.heap h'->(∃o,h'.get? e=some o/\o.cls = .type "StopIteration")->E (.ref e) { s with heap:=h' })->wpAny (model P w) A (a1W (.ref i)) Q E s
structure ZAp (z TI TO i1 i2:Addr) (F1 F2:List Addr):Prop where
 tz:TO≠z
 az:i1≠z
 bz:i2≠z
 ta:TO≠i1
 tb:TO≠i2
 ab:i1≠i2
 f1:∀c∈F1,c≠z/\c≠TO/\c≠i2
 f2:∀c∈F2,c≠z/\c≠TO/\c≠i1
section
variable {prog:Program}{w:World}{A:Around}{E:Value->Shared->Prop}{s:Shared}{z TI TO i1 i2:Addr}{F1 F2:List Addr}{S1 S1' S2 S2':Heap->Prop}{R1 R2:Value->Prop}{a b:Value}
theorem Z8 {Q:Value->Shared->Prop}(D:ZAp z TI TO i1 i2 F1 F2) (t1:EE F1 S1) (t1':EE F1 S1') (t2:EE F2 S2) (t2':EE F2 S2') (n1:NxI prog w A i1 S1 S1' R1) (n2:NxI prog w A i2 S2 S2' R2)
   (hz:IsZip s.heap z TI TO .none) (hTI:IsPair s.heap TI (.ref i1) (.ref i2)) (hTO:IsPair s.heap TO a b) (h1:S1 s.heap) (h2:S2 s.heap)
   (l1:∀h,S1' h->i1 < h.objs.size) (l2:∀h,S2' h->i2 < h.objs.size)
   (hQ:∀h' tk x y,R1 x->R2 y->IsZip h' z TI TO (rawInt s.heap.objs.size)->IsPair h' TO x y->S1' h'->S2' h'->IsPair h' s.heap.objs.size x y->h'.objs.size=s.heap.objs.size+1 ->
     (∀c o,c≠z->c≠TO->c≠i1->c≠i2->s.heap.get? c=some o->h'.get? c=some o)->Q (.ref s.heap.objs.size) { s with heap:=h',toks:=tk }) :
   wpAny (model prog w) A (Builtin.«zip.__next__» ⟨[.ref z],[]⟩) (fun fin s'=>∃v,fin = .done (.ret v)/\Q v s') E s:=by
 show wpAny _ _ (field (.ref z) 2 >>= _) _ _ _
 refine zZ (wpAny_field hz rfl (x:=.bool false) rfl ?_);show wpAny _ _ (field (.ref z) 3 >>= _) _ _ _
 refine zZ (wpAny_field hz rfl (x:=.ref TI) rfl ?_);refine zZ (wpAny_seqItems hTI rfl ?_)
 show wpAny _ _ (a2Q (.ref z) >>= _) _ _ _;refine zZ ?_;unfold a2Q
 refine zZ (wpAny_field hz rfl (x:=.none) rfl (zY ?_));simp only[if_true];refine zZ (wpAny_rule ?_)
 refine zZ (wpAny_field hz rfl (x:=.ref TO) rfl ?_);refine zZ (wpAny_setField_rec hz (by simp) fun g1 y1 q1=>?_)
 replace y1:IsZip g1 z TI TO .ellipsis:=y1
 refine zZ ?_;simp only[List.forIn_cons,List.forIn_nil,b8W,List.zipIdx_nil]
 refine zZ (zZ (wpAny_onRaise ?_));show wpAny _ _ (a1W (.ref i1) >>= _) _ _ _
 refine zZ (n1 _ _ _ (t1 _ _ h1 fun c hc o e=>q1.extBut _ _ (D.f1 c hc).1 e) fun g2 k2 x rx x2 q2=>zY ?_)
 have p2:IsPair g2 TO a b:=q2.extBut _ _ D.ta (q1.extBut _ _ D.tz hTO)
 refine zZ (wpAny_seqItems p2 rfl ?_);refine zZ (wpAny_updateSeq_pair p2 fun g3 p3 q3=>?_)
 replace p3:IsPair g3 TO x b:=p3
 refine zZ (wpAny_letGo (zY ?_));refine zZ (zZ (wpAny_onRaise ?_));show wpAny _ _ (a1W (.ref i2) >>= _) _ _ _
 refine zZ (n2 _ _ _ (t2 _ _ h2 fun c hc o e=>q3.extBut _ _ (D.f2 c hc).2.1 (q2.extBut _ _ (D.f2 c hc).2.2 (q1.extBut _ _ (D.f2 c hc).1 e))) fun g4 k4 y ry x4 q4=>zY ?_)
 have p4:IsPair g4 TO x b:=q4.extBut _ _ D.tb p3
 refine zZ (wpAny_seqItems p4 rfl ?_);refine zZ (wpAny_updateSeq_pair p4 fun g5 p5 q5=>?_)
 replace p5:IsPair g5 TO x y:=p5
 refine zZ (wpAny_letGo (zY (zY ?_)));refine zZ (wpAny_seqItems p5 rfl ?_);refine zZ (wpAny_newTuple ?_)
 have hsz:g5.objs.size=s.heap.objs.size:=by rw[q5.1,q4.1,q3.1,q2.1,q1.1]
 have y5:IsZip g5 z TI TO .ellipsis:=q5.extBut _ _ D.tz.symm (q4.extBut _ _ D.bz.symm (q3.extBut _ _ D.tz.symm (q2.extBut _ _ D.az.symm y1)))
 have k5:∀c o,c≠z->c≠TO->c≠i1->c≠i2->s.heap.get? c=some o->g5.get? c=some o:=fun c o c1 c2 c3 c4 e=>q5.extBut _ _ c2 (q4.extBut _ _ c4 (q3.extBut _ _ c2 (q2.extBut _ _ c3 (q1.extBut _ _ c1 e))))
 have x25:S1' g5:=t1' _ _ x2 fun c hc o e=>q5.extBut _ _ (D.f1 c hc).2.1 (q4.extBut _ _ (D.f1 c hc).2.2 (q3.extBut _ _ (D.f1 c hc).2.1 e))
 have x45:S2' g5:=t2' _ _ x4 fun c hc o e=>q5.extBut _ _ (D.f2 c hc).2.1 e
 have ltz:z < g5.objs.size:=zM y5
 show wpAny _ _ (b5X (.ref z) (.ref g5.objs.size) >>= _) _ _ _;refine zZ ?_;unfold b5X
 have y6:IsZip (g5.push { cls:=.type "tuple", data:=.seq #[x,y] }) z TI TO .ellipsis:=zW _ y5
 refine zZ (wpAny_setField_rec y6 (by simp) fun g7 y7 q7=>?_)
 replace y7:IsZip g7 z TI TO (rawInt g5.objs.size):=y7
 refine wpAny_setField_rec y7 (by simp) fun g8 y8 q8=>?_
 replace y8:IsZip g8 z TI TO (rawInt g5.objs.size):=y8
 have up:∀c o,c≠z->g5.get? c=some o->g8.get? c=some o:=fun c o c1 e=>q8.extBut _ _ c1 (q7.extBut _ _ c1 (zW _ e))
 have p8:IsPair g8 g5.objs.size x y:=q8.extBut _ _ (a9K ltz) (q7.extBut _ _ (a9K ltz) (yZ _ rfl))
 have s8:g8.objs.size=g5.objs.size+1:=by rw[q8.1,q7.1,b0W]
 rw[hsz] at y8 p8 s8
 refine zY ⟨_,rfl,?_⟩;show Q (.ref g5.objs.size) _;rw[hsz]
 exact hQ g8 _ x y rx ry y8 (up _ _ D.tz p5) (t1' _ _ x25 fun c hc o e=>up c o (D.f1 c hc).1 e) (t2' _ _ x45 fun c hc o e=>up c o (D.f2 c hc).1 e) p8 s8 fun c o c1 c2 c3 c4 e=>up c o c1 (k5 c o c1 c2 c3 c4 e)
theorem Z9 {Q:Fin->Shared->Prop}(D:ZAp z TI TO i1 i2 F1 F2) (t1:EE F1 S1) (n1:NxE prog w A i1 S1)
   (hz:IsZip s.heap z TI TO .none) (hTI:IsPair s.heap TI (.ref i1) (.ref i2)) (hTO:IsPair s.heap TO a b) (h1:S1 s.heap)
   (hE:∀h' e tk,(∀c o,c≠z->c≠TO->c≠i1->c≠i2->s.heap.get? c=some o->h'.get? c=some o)->(∃o,h'.get? e=some o/\o.cls = .type "StopIteration")->E (.ref e) { s with heap:=h',toks:=tk }) :
   wpAny (model prog w) A (Builtin.«zip.__next__» ⟨[.ref z],[]⟩) Q E s:=by
 show wpAny _ _ (field (.ref z) 2 >>= _) _ _ _
 refine zZ (wpAny_field hz rfl (x:=.bool false) rfl ?_);show wpAny _ _ (field (.ref z) 3 >>= _) _ _ _
 refine zZ (wpAny_field hz rfl (x:=.ref TI) rfl ?_);refine zZ (wpAny_seqItems hTI rfl ?_)
 show wpAny _ _ (a2Q (.ref z) >>= _) _ _ _;refine zZ ?_;unfold a2Q
 refine zZ (wpAny_field hz rfl (x:=.none) rfl (zY ?_));simp only[if_true];refine zZ (wpAny_rule ?_)
 refine zZ (wpAny_field hz rfl (x:=.ref TO) rfl ?_);refine zZ (wpAny_setField_rec hz (by simp) fun g1 y1 q1=>?_)
 replace y1:IsZip g1 z TI TO .ellipsis:=y1
 refine zZ ?_;simp only[List.forIn_cons,List.forIn_nil,b8W,List.zipIdx_nil]
 refine zZ (zZ (wpAny_onRaise ?_));show wpAny _ _ (a1W (.ref i1) >>= _) _ _ _
 refine zZ (n1 _ _ _ (t1 _ _ h1 fun c hc o e=>q1.extBut _ _ (D.f1 c hc).1 e) fun g2 e q2 he=>?_)
 obtain⟨oe,hoe,hce⟩:=he
 have y2:IsZip g2 z TI TO .ellipsis:=q2 _ _ D.az.symm y1
 have ez:e≠z:=fun x=>by subst x;rw[y2] at hoe;cases hoe;simp at hce
 exact wpAny_setField_rec y2 (by simp) fun g3 _ q3=>hE g3 e _ (fun c o c1 _ c3 _ x=>q3.extBut _ _ c1 (q2 _ _ c3 (q1.extBut _ _ c1 x))) ⟨oe,q3.extBut _ _ ez hoe,hce⟩
theorem ZA {Q:Fin->Shared->Prop}(D:ZAp z TI TO i1 i2 F1 F2) (t1:EE F1 S1) (t2:EE F2 S2) (n1:NxI prog w A i1 S1 S1' R1) (n2:NxE prog w A i2 S2)
   (hz:IsZip s.heap z TI TO .none) (hTI:IsPair s.heap TI (.ref i1) (.ref i2)) (hTO:IsPair s.heap TO a b) (h1:S1 s.heap) (h2:S2 s.heap)
   (hE:∀h' e tk,(∀c o,c≠z->c≠TO->c≠i1->c≠i2->s.heap.get? c=some o->h'.get? c=some o)->(∃o,h'.get? e=some o/\o.cls = .type "StopIteration")->E (.ref e) { s with heap:=h',toks:=tk }) :
   wpAny (model prog w) A (Builtin.«zip.__next__» ⟨[.ref z],[]⟩) Q E s:=by
 show wpAny _ _ (field (.ref z) 2 >>= _) _ _ _
 refine zZ (wpAny_field hz rfl (x:=.bool false) rfl ?_);show wpAny _ _ (field (.ref z) 3 >>= _) _ _ _
 refine zZ (wpAny_field hz rfl (x:=.ref TI) rfl ?_);refine zZ (wpAny_seqItems hTI rfl ?_)
 show wpAny _ _ (a2Q (.ref z) >>= _) _ _ _;refine zZ ?_;unfold a2Q
 refine zZ (wpAny_field hz rfl (x:=.none) rfl (zY ?_));simp only[if_true];refine zZ (wpAny_rule ?_)
 refine zZ (wpAny_field hz rfl (x:=.ref TO) rfl ?_);refine zZ (wpAny_setField_rec hz (by simp) fun g1 y1 q1=>?_)
 replace y1:IsZip g1 z TI TO .ellipsis:=y1
 refine zZ ?_;simp only[List.forIn_cons,List.forIn_nil,b8W,List.zipIdx_nil]
 refine zZ (zZ (wpAny_onRaise ?_));show wpAny _ _ (a1W (.ref i1) >>= _) _ _ _
 refine zZ (n1 _ _ _ (t1 _ _ h1 fun c hc o e=>q1.extBut _ _ (D.f1 c hc).1 e) fun g2 k2 x rx x2 q2=>zY ?_)
 have p2:IsPair g2 TO a b:=q2.extBut _ _ D.ta (q1.extBut _ _ D.tz hTO)
 refine zZ (wpAny_seqItems p2 rfl ?_);refine zZ (wpAny_updateSeq_pair p2 fun g3 p3 q3=>?_)
 refine zZ (wpAny_letGo (zY ?_));refine zZ (zZ (wpAny_onRaise ?_));show wpAny _ _ (a1W (.ref i2) >>= _) _ _ _
 refine zZ (n2 _ _ _ (t2 _ _ h2 fun c hc o e=>q3.extBut _ _ (D.f2 c hc).2.1 (q2.extBut _ _ (D.f2 c hc).2.2 (q1.extBut _ _ (D.f2 c hc).1 e))) fun g4 e q4 he=>?_)
 obtain⟨oe,hoe,hce⟩:=he
 have y4:IsZip g4 z TI TO .ellipsis:=q4 _ _ D.bz.symm (q3.extBut _ _ D.tz.symm (q2.extBut _ _ D.az.symm y1))
 have ez:e≠z:=fun x=>by subst x;rw[y4] at hoe;cases hoe;simp at hce
 exact wpAny_setField_rec y4 (by simp) fun g5 _ q5=>hE g5 e _ (fun c o c1 c2 c3 c4 x=>q5.extBut _ _ c1 (q4 _ _ c4 (q3.extBut _ _ c2 (q2.extBut _ _ c3 (q1.extBut _ _ c1 x))))) ⟨oe,q5.extBut _ _ ez hoe,hce⟩
theorem ZB {Q:Option Value->Shared->Prop}(D:ZAp z TI TO i1 i2 F1 F2) (t1:EE F1 S1) (t1':EE F1 S1') (t2:EE F2 S2) (t2':EE F2 S2') (n1:∀A:Around,NxI prog w A i1 S1 S1' R1) (n2:∀A:Around,NxI prog w A i2 S2 S2' R2)
   (hz:IsZip s.heap z TI TO .none) (hTI:IsPair s.heap TI (.ref i1) (.ref i2)) (hTO:IsPair s.heap TO a b) (h1:S1 s.heap) (h2:S2 s.heap)
   (l1:∀h,S1' h->i1 < h.objs.size) (l2:∀h,S2' h->i2 < h.objs.size)
   (hQ:∀h' tk x y,R1 x->R2 y->IsZip h' z TI TO (rawInt s.heap.objs.size)->IsPair h' TO x y->S1' h'->S2' h'->IsPair h' s.heap.objs.size x y->h'.objs.size=s.heap.objs.size+1 ->
     (∀c o,c≠z->c≠TO->c≠i1->c≠i2->s.heap.get? c=some o->h'.get? c=some o)->Q (some (.ref s.heap.objs.size)) { s with heap:=h',toks:=tk }) :
   wpAny (model prog w) A (pyNext (.ref z)) Q E s:=by
 have hT:s.TypeIs (.ref z) "zip" := ⟨_,hz,rfl⟩
 unfold pyNext
 exact zZ (wpAny_attempt (wpAny_callSpecial?_slot (name:=a0Q "__next__") hT F.slot_zip_next (wpAny_call_entry F.slot_zip_next hT F.entry_zip_next
   (Z8 D t1 t1' t2 t2' (n1 _) (n2 _) hz hTI hTO h1 h2 l1 l2 fun h' tk x y b1 b2 b3 b4 b5 b6 b7 b8 b9=>zY (hQ h' tk x y b1 b2 b3 b4 b5 b6 b7 b8 b9)) (F.args_zip_next_1 _))))
theorem ZC {Q:Option Value->Shared->Prop}(hh:A.handled=none) (hz:IsZip s.heap z TI TO .none)
   (h:∀(Q':Fin->Shared->Prop) (E':Value->Shared->Prop),(∀h' e tk,(∀c o,c≠z->c≠TO->c≠i1->c≠i2->s.heap.get? c=some o->h'.get? c=some o)->(∃o,h'.get? e=some o/\o.cls = .type "StopIteration")->E' (.ref e) { s with heap:=h',toks:=tk }) ->
     ∀A':Around,A'.handled=none->wpAny (model prog w) A' (Builtin.«zip.__next__» ⟨[.ref z],[]⟩) Q' E' s)
   (hQ:∀h' tk,(∀c o,c≠z->c≠TO->c≠i1->c≠i2->s.heap.get? c=some o->h'.get? c=some o)->Q none { s with heap:=h',toks:=tk }):wpAny (model prog w) A (pyNext (.ref z)) Q E s:=by
 have hT:s.TypeIs (.ref z) "zip" := ⟨_,hz,rfl⟩
 unfold pyNext
 refine zZ (wpAny_attempt (wpAny_callSpecial?_slot (name:=a0Q "__next__") hT F.slot_zip_next (wpAny_call_entry F.slot_zip_next hT F.entry_zip_next (h _ _ (fun h' e tk hk he=>?_) _ ?_) (F.args_zip_next_1 _))))
 · obtain⟨o,ho,hc⟩:=he
   refine zZ (wpAny_isInstance (T:= "StopIteration") (b:=true) ⟨o,ho,hc⟩ isSubtype_stop ?_)
   exact zY (hQ _ _ hk)
 · exact hh
end
end L2
namespace L2
open PySem PySem.Spec PyProof.Rows
section
variable {prog:Program}{w:World}{A:Around}{E:Value->Shared->Prop}{s:Shared}
theorem W3 {i t:Addr}{k:Nat}{items:Array Value}{y:Value}(hne:t≠i) (hx:items[k]?=some y):NxI prog w A i (fun h=>h.IsTupleIter i t k/\h.IsTuple t items) (fun h=>h.IsTupleIter i t (k+1)/\h.IsTuple t items) (fun v=>v=y):=fun s Q E hS hQ=>by
 obtain⟨hit,ht⟩:=hS
 obtain⟨o,ho,hc,hd⟩:=id hit
 obtain⟨ol,hol,hcl,nl,hdl⟩:=id ht
 unfold a1W;refine zZ (wpAny_callSpecial?_slot (name:=a0Q "__next__") hit.typeIs b0V (wpAny_call_entry b0V hit.typeIs F.entry_tuple_iterator_next ?_ (F.args_tuple_iterator_next_1 _)))
 show wpAny _ _ (field (.ref i) 0 >>= _) _ _ s
 refine zZ (wpAny_field ho hd (x:=.ref t) rfl ?_);show wpAny _ _ (if (a0X t==a4J)=true then _ else _) _ _ s
 rw[if_neg (show ¬((a0X t==a4J)=true) from nft)];show wpAny _ _ (field (.ref i) 1 >>= _) _ _ s
 refine zZ (wpAny_field ho hd (x:=.int k 0) rfl ?_);show wpAny _ _ (seqItems? (.ref t) >>= _) _ _ s
 refine zZ (wpAny_seqItems hol hdl ?_);simp only[a7Z,hx]
 refine zZ (wpAny_setField ho hd (by simp) (zY ⟨y,rfl,zY (hQ _ s.toks y rfl ⟨?_,ht.extBut (b8K ..).extBut hne⟩ (b8K ..))⟩))
 exact⟨_,Heap.get?_update_self _ ho (Obj.isFreed_of_fields (Obj.data_mapFields hd _)),(Obj.cls_mapFields ..).trans hc,by rw[Obj.data_mapFields hd];simp[rawInt]⟩
abbrev TY (v:Value) (o:Obj) (Pre:Heap->Prop):Prop:=∀(prog:Program) (w:World) (A:Around) (E:Value->Shared->Prop) (s:Shared) (Q:Value->Shared->Prop),Pre s.heap->Q (.ref s.heap.objs.size) { s with heap:=s.heap.push o }->wpAny (model prog w) A (pyIter v) Q E s
theorem XN {t:Addr}{items:Array Value}:TY (.ref t) { cls:=.type "tuple_iterator", data:=.fields #[.ref t,.int 0 0] } (fun h=>h.IsTuple t items):=fun prog w A E s Q ht hQ=>wpAny_pyIter_tuple ht hQ
abbrev zH1 (h:Heap) (o1:Obj):Heap:=h.push o1
abbrev zH2 (h:Heap) (o1 o2:Obj):Heap:=(zH1 h o1).push o2
abbrev zH3 (h:Heap) (o1 o2:Obj):Heap:=(zH2 h o1 o2).push { cls:=.type "tuple", data:=.seq #[.ref h.objs.size,.ref (zH1 h o1).objs.size] }
abbrev zH4 (h:Heap) (o1 o2:Obj):Heap:=(zH3 h o1 o2).push { cls:=.type "tuple", data:=.seq #[.none,.none] }
abbrev zH5 (h:Heap) (o1 o2:Obj):Heap:=(zH4 h o1 o2).push { cls:=.type "zip", data:=.fields #[.none,.bool false,.bool false,.ref (zH2 h o1 o2).objs.size,.ref (zH3 h o1 o2).objs.size] }
theorem W4 {v1 v2:Value}{o1 o2:Obj}{Pre1 Pre2:Heap->Prop}(n1:TY v1 o1 Pre1) (n2:TY v2 o2 Pre2) (st2:∀h o,Pre2 h->Pre2 (h.push o)) :
   Meets (Builtin.«zip.__new__» ⟨[.type "zip", v1,v2],[]⟩) (fun _ R s=>Pre1 s.heap/\Pre2 s.heap/\R (.ok (.ret (.ref (zH4 s.heap o1 o2).objs.size))) { s with heap:=zH5 s.heap o1 o2 }):=
 .of_wp fun prog w A R s h=>by
   obtain⟨hp,g,d,tk,os⟩:=s
   obtain⟨p1,p2,h⟩:=h
   have hsub:=sub_zip
   have p2':Pre2 (hp.push o1):=st2 _ _ p2
   wp_walk using n1 _ _ _ _ _ _ p1,n2 _ _ _ _ _ _ p2'
   exact⟨_,rfl,h⟩
theorem ZD {v1 v2:Value}{o1 o2:Obj}{Pre1 Pre2:Heap->Prop}{Q:Value->Shared->Prop}(n1:TY v1 o1 Pre1) (n2:TY v2 o2 Pre2) (st2:∀h o,Pre2 h->Pre2 (h.push o)) (f1:o1.isFreed=false) (f2:o2.isFreed=false) (h1:Pre1 s.heap) (h2:Pre2 s.heap)
   (h:∀h',IsZip h' (s.heap.objs.size+4) (s.heap.objs.size+2) (s.heap.objs.size+3) .none->IsPair h' (s.heap.objs.size+2) (.ref s.heap.objs.size) (.ref (s.heap.objs.size+1)) ->
     IsPair h' (s.heap.objs.size+3) .none .none->h'.get? s.heap.objs.size=some o1->h'.get? (s.heap.objs.size+1)=some o2->(∀c o,s.heap.get? c=some o->h'.get? c=some o)->Q (.ref (s.heap.objs.size+4)) { s with heap:=h' }) :
   wpAny (model prog w) A (call (.type "zip") [v1,v2]) Q E s:=by
 refine callType_new F.called_zip (by decide) (F.typeCall_zip_2 _ _) (F.newCall_zip_2 _ _) (fun obj=>F.args_object_init_3 obj _ _) F.entry_zip_new (W4 n1 n2 st2) ⟨h1,h2,?_⟩
 have z1:(zH1 s.heap o1).objs.size=s.heap.objs.size+1:=b0W ..
 have z2:(zH2 s.heap o1 o2).objs.size=s.heap.objs.size+2:=by rw[b0W,z1]
 have z3:(zH3 s.heap o1 o2).objs.size=s.heap.objs.size+3:=by rw[b0W,z2]
 have z4:(zH4 s.heap o1 o2).objs.size=s.heap.objs.size+4:=by rw[b0W,z3]
 have e5:(zH5 s.heap o1 o2).get? (zH4 s.heap o1 o2).objs.size=some _:=yZ _ rfl
 have e4:(zH5 s.heap o1 o2).get? (zH3 s.heap o1 o2).objs.size=some _:=zW _ (yZ _ rfl)
 have e3:(zH5 s.heap o1 o2).get? (zH2 s.heap o1 o2).objs.size=some _:=zW _ (zW _ (yZ _ rfl))
 have e2:(zH5 s.heap o1 o2).get? (zH1 s.heap o1).objs.size=some o2:=zW _ (zW _ (zW _ (yZ _ f2)))
 have e1:(zH5 s.heap o1 o2).get? s.heap.objs.size=some o1:=zW _ (zW _ (zW _ (zW _ (yZ _ f1))))
 show _/\_
 rw[z2,z3,z4] at e5
 rw[z1,z2] at e3
 rw[z3] at e4
 rw[z1] at e2
 rw[z4]
 exact⟨⟨_,e5,rfl⟩,h _ e5 e3 e4 e1 e2 fun c o x=>zW _ (zW _ (zW _ (zW _ (zW _ x))))⟩
end
section
variable {X:Cx}{pins:List (Addr×Obj)}{σ:St}{H:Hp}{s:Shared}
theorem RX {a z:Addr}{xs:List V}(I:Inv X pins σ H s) (hf:JW X pins H z) (h:SqT X.K H a xs):a≠z:=by
 rintro rfl
 rcases h with h | ⟨o,its,n,hk,_⟩
 · rcases h with h | ⟨o',h⟩ <;> rw[hf.1] at h <;> cases h
 · have e:=I.ok.mod.kin a o hk
   rcases hf.2.2.2.1 with z | z
   · exact I.ok.noex a o e z
   · exact absurd (zP (zM e) (zN I.ok.bsz z)) (yF _)
end
end L2
namespace L2
open PySem PySem.Spec PyProof.Rows
section
variable {X:Cx}
def kA:R2:=fun x y H Q=>(y = .non/\Q (.bl (!decide (x = .non))) H)∨∃a b:Bool,x = .bl a/\y = .bl b/\Q (.bl (!(a==b))) H
theorem XO:OpR X (compareOp .IsNot) kA:=by
 intro pins s σ H x y v u Q I rx ry h
 rcases h with h | ⟨a,b,rfl,rfl,q⟩
 · exact fV pins s σ H x y v u Q I rx ry h
 · cases rx;cases ry
   refine wpAny_isNot_plain rfl ⟨.bl (!(a==b)),H,I,?_,q⟩
   cases a <;> cases b <;> rfl
end
end L2
namespace DL
open PySem PySem.Spec L2
section
variable {K:Frg}{ρ:List (Option DS)}{M:Own}{Q:DS->Own->Prop}{QI:List PyData->Own->Prop}
theorem NO {d:PyData}(q:Q (.d (.bool (!RQ d))) M):D2 K kA (.d d) (.d .none) M Q:=F7 (i4 q)
def DPs (K:Frg) (trs:List (TE×TE)) (ρ:List (Option DS)) (M:Own) (Q:List (Str×PyData)->Own->Prop):Prop:=
 ∀(σ:St) (H:Hp) (QQ:List (V×V)->Hp->Prop),Rel K M ρ σ H->(∀ps H' kds M',OA K H' M'->(∃vs,DVs K H' M'.W (kds.map (·.2)) vs/\ps=(kds.map fun k=>V.str k.1).zip vs)->Step K M M' H H'->Q kds M'->QQ ps H')->RA trs σ H QQ
theorem IK {Q:List (Str×PyData)->Own->Prop}(h:Q [] M):DPs K [] ρ M Q:=fun σ H QQ R k=>k [] H [] M R.own ⟨[],DVs.nil,rfl⟩ Step.refl h
theorem BI {tk tv:TE}{trs:List (TE×TE)}{Q:List (Str×PyData)->Own->Prop}(h:DE K tk ρ M fun x M1=>∃k,x = .d (.str k)/\DE K tv ρ M1 fun y M2=>∃d,y = .d d/\DPs K trs ρ M2 fun kds M3=>Q ((k,d)::kds) M3):DPs K ((tk,tv)::trs) ρ M Q:=fun σ H QQ R kk=>
 h σ H _ R fun v H1 x M1 o1 s1 t1 h1=>by
   obtain⟨k,rfl,h1⟩:=h1
   refine h1 σ H1 _ (R.step o1 t1) fun u H2 y M2 o2 s2 t2 h2=>?_
   obtain⟨d,rfl,h2⟩:=h2
   refine h2 σ H2 _ (R.step o2 (t1.trans t2)) fun ps H3 kds M3 o3 ⟨vs,s3,e3⟩ t3 q=>?_
   refine kk _ H3 ((k,d)::kds) M3 o3 ⟨u::vs,DVs.cons (DV.grow t3.grow s2) s3,?_⟩ ((t1.trans t2).trans t3) q
   rw[BC s1,e3];rfl
theorem LR:∀(kvs acc:List (Key×V)),((acc++kvs).map (·.1)).Nodup->HJ acc kvs=acc++kvs
 | [],acc,_=>by simp[HJ]
 | kv::r,acc,h=>by
   have h1:(acc.any fun x=>decide (x.1=kv.1))=false:=by
     rw[List.any_eq_false]
     intro x hx
     rw[xI,List.nodup_append] at h
     have:=h.2.2 x.1 (zL.mpr ⟨x,hx,rfl⟩) kv.1 (by simp)
     simpa using this
   show HJ (CV acc kv.1 kv.2) r=_
   have e:CV acc kv.1 kv.2=acc++[kv]:=by
     unfold CV
     rw[h1];rfl
   rw[e,LR r (acc++[kv]) (by rw[a7X];exact h)]
   simp
theorem cP {H:Hp}{W:Addr->Prop}:∀{kds:List (Str×PyData)}{vs:List V},DVs K H W (kds.map (·.2)) vs->DKV K H W (kds.map fun k=>(.str k.1,k.2)) ((kds.map fun k=>(a0V k.1:Key)).zip vs)
 | [],vs,h=>by unfold DKV;rfl
 | (k,d)::r,vs,h=>by
   rw[zI] at h
   unfold DVs at h
   obtain⟨v,r',rfl,h1,h2⟩:=h
   rw[zI]
   unfold DKV
   exact⟨a0V k,v,_,rfl,rfl,h1,cP h2⟩
theorem TZ:∀(kds:List (Str×PyData)) (vs:List V),vs.length=kds.length->(kds.map fun k=>V.str k.1).zip vs=((kds.map fun k=>(a0V k.1:Key)).zip vs).map fun kv=>(kV kv.1,kv.2)
 | [],vs,_=>by simp
 | a::r,[],h=>by cases h
 | a::r,v::vs,h=>by
   rw[zI,zI,a6W,a6W,zI,TZ r vs (by simpa using h)];rfl
theorem FK {trs:List (TE×TE)}(h:∀p,M p=none->DPs K trs ρ (M.put p (.d [])) fun kds M1=>M1 p=some (.d [])/\kds.length<=15/\(kds.map (·.1)).Nodup/\Q (.d (.dict (kds.map fun k=>(.str k.1,k.2)))) (M1.del p)):DE K (jU trs) ρ M Q:=fun σ H QQ R k p hp=>by
 have hMp:=R.own.none hp
 obtain⟨oa0,st0⟩:=K1 (kvs:=[]) (ks:=[]) R.own hp (by unfold DKV;rfl)
 refine h p hMp σ _ _ (R.step oa0 st0) fun ps H2 kds M2 o2 ⟨vs,hd,e⟩ t2 h2=>?_
 obtain⟨hm,hl,nd,q⟩:=h2
 obtain⟨ks,q1,q2⟩:=o2 p _ hm
 unfold DKV at q2
 subst q2
 have hlen:vs.length=kds.length:=by rw[hd.length,zX]
 refine⟨q1,(kds.map fun k=>(a0V k.1:Key)).zip vs,?_,by rw[b4Z,zX];omega,?_⟩
 · rw[e];exact TZ kds vs hlen
 · have hk:(((kds.map fun k=>(a0V k.1:Key)).zip vs).map (·.1)).Nodup:=by
     rw[List.map_fst_zip (by rw[zX,hlen];exact zR _)]
     have:kds.map (fun k=>(a0V k.1:Key))=(kds.map (·.1)).map a0V:=by rw[zD];rfl
     rw[this]
     unfold List.Nodup
     rw[a6X]
     exact nd.imp fun {a b} q e=>q (by injection e)
   rw[LR _ [] (by simpa using hk),List.nil_append]
   obtain⟨o3,t3⟩:=EC (kvs:=kds.map fun k=>(.str k.1,k.2)) (ks:=(kds.map fun k=>(a0V k.1:Key)).zip vs) o2 hm (cP hd)
   have hs:(M2.del p).Sub (M2.put p (.d (kds.map fun k=>(.str k.1,k.2)))):=fun b o e=>by
     unfold Own.del at e
     by_cases hb:b=p
     · rw[if_pos hb] at e;cases e
     · rw[if_neg hb] at e;rw[yH hb];exact e
   refine k _ _ (.d (.dict (kds.map fun k=>(.str k.1,k.2)))) (M2.del p) (o3.sub hs) ?_ (((st0.trans t2).trans t3).trans ⟨B1 hs⟩) q
   obtain⟨ks',q1',q2'⟩:=o3 p _ zU
   unfold SI DV
   exact⟨p,ks',rfl,fun w=>w (by unfold Own.del;rw[if_pos rfl]),.inl q1',q2'.grow (B1 hs)⟩
def GO (k:Str):List (PyData×PyData)->Option PyData
 | (.str a,d)::r=>if a=k then some d else GO k r
 | _::r=>GO k r
 | []=>none
theorem XQ {H:Hp}{W:Addr->Prop}{k:Str}:∀{kvs:List (PyData×PyData)}{ks:List (Key×V)},DKV K H W kvs ks->(∃d v,GO k kvs=some d/\G7 ks (a0V k)=some v/\DV K H W d v)∨(GO k kvs=none/\G7 ks (a0V k)=none)
 | [],ks,h=>by unfold DKV at h;subst h;exact .inr ⟨rfl,rfl⟩
 | (kd,d)::r,ks,h=>by
   unfold DKV at h
   obtain⟨k',v,r',rfl,rfl,h1,h2⟩:=h
   have ih:=XQ (k:=k) h2
   unfold G7 at ih ⊢
   rw[a7Q]
   cases k' with
   | inl i=>
     have e1:decide ((a8K i:Key)=a0V k)=false:=rfl
     rw[e1]
     exact ih
   | inr a=>
     by_cases e:a=k
     · subst e
       left
       exact⟨d,v,by simp[YU,GO],by simp,h1⟩
     · have e1:decide ((a0V a:Key)=a0V k)=false:=decide_eq_false fun q=>e (by injection q)
       rw[e1]
       rcases ih with ⟨d',v',a1,a2,a3⟩ | ⟨a1,a2⟩
       · exact .inl ⟨d',v',by simp only[YU,GO,if_neg e];exact a1,a2,a3⟩
       · exact .inr ⟨by simp only[YU,GO,if_neg e];exact a1,a2⟩
theorem K5 {td ty tx:TE}(h:DE K td ρ M fun x M1=>∃kvs,x = .d (.dict kvs)/\DE K ty ρ M1 fun y M2=>∃k,y = .d (.str k)/\DE K tx ρ M2 fun z M3=>∃dz,z = .d dz/\Q (.d ((GO k kvs).getD dz)) M3):DE K (bE td ty tx) ρ M Q:=fun σ H QQ R kk=>
 h σ H _ R fun v H1 x M1 o1 s1 t1 h1=>by
   obtain⟨kvs,rfl,h1⟩:=h1
   have s1':=s1
   unfold SI DV at s1'
   obtain⟨a,ks,rfl,nw,ha,hk⟩:=s1'
   refine⟨a,rfl,.inl ⟨ks,ha⟩,h1 σ H1 _ (R.step o1 t1) fun u H2 y M2 o2 s2 t2 h2=>?_⟩
   obtain⟨k,rfl,h2⟩:=h2
   refine h2 σ H2 _ (R.step o2 (t1.trans t2)) fun z H3 zz M3 o3 s3 t3 h3=>?_
   obtain⟨dz,rfl,q⟩:=h3
   have s1'':=s1.step (t2.trans t3)
   unfold SI DV at s1''
   obtain⟨a',ks',e,nw',ha',hk'⟩:=s1''
   cases e
   rw[BC s2]
   rcases XQ (k:=k) hk' with ⟨d,v,e1,e2,e3⟩ | ⟨e1,e2⟩
   · rw[e1] at q
     exact⟨some v,.inl ⟨ks',a0V k,ha',rfl,e2.symm⟩,kk _ H3 (.d d) M3 o3 e3 ((t1.trans t2).trans t3) q⟩
   · rw[e1] at q
     exact⟨none,.inl ⟨ks',a0V k,ha',rfl,e2.symm⟩,kk _ H3 (.d dz) M3 o3 s3 ((t1.trans t2).trans t3) q⟩
end
end DL
namespace L2
open PySem PySem.Spec PyProof.Rows
section
variable {prog:Program}{w:World}{A:Around}{E:Value->Shared->Prop}{s:Shared}
theorem U0 {it l:Addr}{its:Array Value}(hne:l≠it):∀(n i:Nat) (s:Shared) (Q:List Value->Shared->Prop),s.heap.IsListIter it l i->s.heap.IsList l its->i+n<=its.size ->
   (∀h',h'.IsListIter it l (i+n)->Heap.SameBut it s.heap h'->Q ((its.toList.drop i).take n) { s with heap:=h' })->wpAny (model prog w) A (draw (.ref it) n) Q E s
 | 0,i,s,Q,hit,_,_,hQ=>by
   show wpAny _ _ (pure []) Q E s;exact zY (by simpa using hQ s.heap hit (Heap.SameBut.refl ..))
 | n+1,i,s,Q,hit,hl,hle,hQ=>by
   have hlt:i < its.size:=by omega
   show wpAny _ _ (pyNext (.ref it) >>= _) Q E s;refine zZ (wpAny_pyNext_list_item hit hl (x:=its[i]) (by simp[hlt]) fun g1 t1 q1=>?_)
   refine zZ (wpAny_holding (U0 hne n (i+1) _ _ t1 (hl.extBut q1.extBut hne) (by omega) fun g2 t2 q2=>zY ?_))
   have hd:its.toList.drop i=its[i]::its.toList.drop (i+1):=by simp[List.drop_eq_getElem_cons,hlt]
   have h3:=hQ g2 (by rw[show i+(n+1)=i+1+n by omega];exact t2) (q1.trans q2)
   rw[hd,List.take_succ_cons] at h3
   exact h3
theorem W5 {l:Addr}{its:Array Value}{Q:List Value->Shared->Prop}(hh:A.handled=none) (hl:s.heap.IsList l its)
   (hQ:∀h',Heap.ExtBut s.heap.objs.size s.heap h'->Q its.toList { s with heap:=h' }):wpAny (model prog w) A (unpackItems (.ref l) its.size none) Q E s:=by
 have hne:l≠s.heap.objs.size:=by obtain⟨o,ho,_⟩:=hl;exact zC (zM ho)
 unfold unpackItems;refine zZ ?_;unfold notIterableAtAll
 refine zZ (wpAny_specialOf hl.typeIs F.slot_list_iter.lookup ?_);refine zY ?_;simp only[b6J,if_false]
 refine zZ (wpAny_holding (wpAny_pyIter_list hl ?_))
 refine zZ (wpAny_holding (U0 hne its.size 0 _ _ ⟨_,yZ _ rfl,rfl,rfl⟩ (hl.push _) (by omega) fun g1 t1 q1=>?_))
 rw[show List.take its.size (List.drop 0 its.toList)=its.toList by rw[List.drop_zero];exact a8J (by simp),if_neg (by simp)]
 refine zZ (wpAny_holding (wpAny_pyNext_list_end hh t1 ((hl.push _).extBut q1.extBut hne) (by simp) fun g2 e2=>?_));simp only[Option.isSome_none,b6J,if_false]
 exact zY (hQ g2 fun b o hb e=>e2 b o hb (q1.extBut b o hb (zW _ e)))
end
section
variable {X:Cx}{pos:Pos}
def cQ (K:Frg) (n:Nat) (t:TGs):TG:=fun v σ H Q=>∃a xs,v = .ref a/\(SqT K H a xs∨SqL K H a xs)/\xs.length=n/\t xs σ H Q
theorem iN {es:List Expr}{k:Nat}{t:TGs}{n:Nat}(hc:X.calm=true) (h:PGs X es t)
   (hn:(assignEach es X.env).length=n:=by rfl) (hst:(assignEach es X.env).findIdx? (·.1)=none:=by rfl):PG X (.Tuple es k pos) (cQ X.K n t):=by
 intro pins s σ H v u Q I r hw
 obtain⟨a,xs,e1,hq,hl,hw⟩:=hw
 rcases hq with hq | hq
 · exact aQ hc h hn hst pins s σ H v u Q I r ⟨a,xs,e1,hq,hl,hw⟩
 · subst e1
   cases r
   obtain⟨its,rv,pl,hz⟩:=I.list hq
   rw[arm_assign_Tuple]
   refine zZ (wpAny_standAt ?_)
   unfold unpack
   rw[show(assignEach es X.env).length=its.toArray.size by simp[hn,← hl,rv.length],hst]
   refine zZ (wpAny_holding (W5 (I.ok.hd hc) pl.isList fun h' hx=>?_))
   have I1:Inv X pins σ H { s with heap:=h' }:=I.kept (t':=s.toks) fun b o e=>hx b o (zC (zM e)) e
   exact h pins _ σ H xs _ Q I1 (by simpa using rv) hw
end
end L2
namespace DL
open PySem PySem.Spec L2
theorem cR {X:Cx}{K:Frg}{pos:Pos}{es:List Expr}{k:Nat}{t:TGs}{n:Nat}(hK:X.K=K) (hc:X.calm=true) (h:PGs X es t)
   (hn:(assignEach es X.env).length=n:=by rfl) (hst:(assignEach es X.env).findIdx? (·.1)=none:=by rfl):PG X (.Tuple es k pos) (cQ K n t):=hK▸iN hc h hn hst
section
variable {K:Frg}{M:Own}{ρ:List (Option DS)}{P:List (Option DS)->Own->Prop}
theorem iO {n:Nat}{g:TGs}{ds:List PyData}(hn:ds.length=n) (h:DGs K g ds ρ M P):DG K (cQ K n g) (.tuple ds) ρ M P:=fun σ H v QQ R dv k=>by
 unfold DV at dv
 obtain⟨a,vs,rfl,hl,hd⟩:=dv
 exact⟨a,vs,rfl,.inl hl.sq,by rw[hd.length];exact hn,h σ H vs QQ R hd k⟩
end
end DL
namespace L2
open PySem PySem.Spec PyProof.Rows PySem.W
section
variable {n:Nat}{lt:Nat->Nat->Bool}
def Good (n:Nat) (lt:Nat->Nat->Bool) {α:Type}(P:α->Prop):KasT α->Prop
 | .ret a=>P a
 | .ask i j k=>i < n/\j < n/\i≠j/\Good n lt P (k (lt i j))
theorem Good.mono {α:Type}{P Q:α->Prop}(h:∀a,P a->Q a):∀{t:KasT α},Good n lt P t->Good n lt Q t
 | .ret _,g=>h _ g
 | .ask _ _ _,⟨a,b,c,g⟩=>⟨a,b,c,Good.mono h g⟩
theorem Good.bind {α β:Type}{P:β->Prop}{f:α->KasT β}:∀{t:KasT α},Good n lt (fun a=>Good n lt P (f a)) t->Good n lt P (t.bind f)
 | .ret _,g=>g
 | .ask _ _ _,⟨a,b,c,g⟩=>⟨a,b,c,Good.bind g⟩
theorem Good.wp {α:Type}{cmp:Nat->Nat->(Bool->Shared->Prop)->Shared->Prop}{s:Shared}{P:α->Prop}{Q:α->Shared->Prop}
   (hc:∀i j (C:Bool->Shared->Prop),i < n->j < n->i≠j->C (lt i j) s->cmp i j C s) (hq:∀a,P a->Q a s):∀{t:KasT α},Good n lt P t->t.kasWp cmp Q s
 | .ret a,g=>hq a g
 | .ask i j k,⟨a,b,c,g⟩=>hc i j _ a b c (Good.wp hc hq g)
structure Strict (n:Nat) (lt:Nat->Nat->Bool):Prop where
 irr:∀i,lt i i=false
 tr:∀i j k,lt i j=true->lt j k=true->lt i k=true
 tot:∀i j,i < n->j < n->i≠j->lt i j=true∨lt j i=true
def Pm (n:Nat) (p:Array Nat):Prop:=p.toList.Perm (a0J n)
theorem Pm.size {p:Array Nat}(h:Pm n p):p.size=n:=by have:=h.length_eq;simpa using this
theorem Pm.bel {p:Array Nat}(h:Pm n p) {i:Nat}(hi:i < n):p.getD i 0 < n:=by
 have hs:i < p.size:=by rw[h.size];exact hi
 have:p[i]∈a0J n:=h.mem_iff.mp (by simp)
 simp only[Array.getD,hs,dite_true]
 exact List.mem_range.mp this
theorem nJ {l:List Nat}(nd:l.Nodup) {i j:Nat}{hi:i < l.length}{hj:j < l.length}(e:l[i]=l[j]):i=j:=by
 rcases Nat.lt_trichotomy i j with h | h | h
 · exact absurd e (List.pairwise_iff_getElem.mp nd i j hi hj h)
 · exact h
 · exact absurd e.symm (List.pairwise_iff_getElem.mp nd j i hj hi h)
theorem Pm.inj {p:Array Nat}(h:Pm n p) {i j:Nat}(hi:i < n) (hj:j < n) (hij:i≠j):p.getD i 0≠p.getD j 0:=by
 have hsi:i < p.size:=by rw[h.size];exact hi
 have hsj:j < p.size:=by rw[h.size];exact hj
 simp only[Array.getD,hsi,hsj,dite_true]
 have nd:p.toList.Nodup:=h.nodup_iff.mpr List.nodup_range
 intro e
 have e':p.toList[i]'(by simpa using hsi)=p.toList[j]'(by simpa using hsj):=by simpa using e
 exact hij (nJ nd e')
def Up (lt:Nat->Nat->Bool) (p:Array Nat) (k:Nat):Prop:=∀i j,i < j->j < k->lt (p.getD i 0) (p.getD j 0)=true
def Dn (lt:Nat->Nat->Bool) (p:Array Nat) (k:Nat):Prop:=∀i j,i < j->j < k->lt (p.getD j 0) (p.getD i 0)=true
theorem NP (S:Strict n lt) {p:Array Nat}(hp:Pm n p):∀(f m:Nat),1<=m->m+f<=n->Up lt p m ->
   Good n lt (fun r=>m<=r/\r<=m+f/\Up lt p r/\(r=m+f∨lt (p.getD r 0) (p.getD (r - 1) 0)=true)) (kas_asc p f m)
 | 0,m,h1,h2,h3=>⟨zR _,zR _,h3,.inl rfl⟩
 | f+1,m,h1,h2,h3=>by
   unfold kas_asc
   refine⟨hp.bel (by omega),hp.bel (by omega),hp.inj (by omega) (by omega) (by omega),?_⟩
   cases hc:lt (p.getD m 0) (p.getD (m - 1) 0) with
   | true=>exact⟨zR _,by omega,h3,.inr hc⟩
   | false=>
     have hup:lt (p.getD (m - 1) 0) (p.getD m 0)=true:=(S.tot _ _ (hp.bel (by omega)) (hp.bel (by omega)) (hp.inj (i:=m - 1) (j:=m) (by omega) (by omega) (by omega))).elim id fun z=>by rw[hc] at z;cases z
     dsimp only
     rw[if_neg nft]
     refine(NP S hp f (m+1) (by omega) (by omega) fun i j hij hj=>?_).mono fun r ⟨a,b,c,d⟩=>⟨by omega,by omega,c,d.elim (fun z=>.inl (by omega)) .inr⟩
     by_cases hjm:j < m
     · exact h3 i j hij hjm
     · have e:j=m:=by omega
       subst e
       by_cases hi:i=j - 1
       · subst hi;exact hup
       · exact S.tr _ _ _ (h3 i (j - 1) (by omega) (by omega)) hup
theorem Q6 (S:Strict n lt) {p:Array Nat}(hp:Pm n p):∀(f m:Nat),1<=m->m+f<=n->Dn lt p m ->
   Good n lt (fun r=>r.1=p/\r.2.2=0/\m<=r.2.1/\r.2.1<=m+f/\Dn lt p r.2.1) (kas_desc f p m 0)
 | 0,m,h1,h2,h3=>⟨rfl,rfl,zR _,zR _,h3⟩
 | f+1,m,h1,h2,h3=>by
   unfold kas_desc
   refine⟨hp.bel (by omega),hp.bel (by omega),hp.inj (by omega) (by omega) (by omega),?_⟩
   cases hc:lt (p.getD m 0) (p.getD (m - 1) 0) with
   | true=>
     dsimp only
     rw[if_pos rfl,if_neg (yF 0)]
     refine(Q6 S hp f (m+1) (by omega) (by omega) fun i j hij hj=>?_).mono fun r ⟨a,b,c,d,e⟩=>⟨a,b,by omega,by omega,e⟩
     by_cases hjm:j < m
     · exact h3 i j hij hjm
     · have e:j=m:=by omega
       subst e
       by_cases hi:i=j - 1
       · subst hi;exact hc
       · exact S.tr _ _ _ hc (h3 i (j - 1) (by omega) (by omega))
   | false=>
     have hup:lt (p.getD (m - 1) 0) (p.getD m 0)=true:=(S.tot _ _ (hp.bel (by omega)) (hp.bel (by omega)) (hp.inj (i:=m - 1) (j:=m) (by omega) (by omega) (by omega))).elim id fun z=>by rw[hc] at z;cases z
     dsimp only
     rw[if_neg nft]
     refine⟨hp.bel (by omega),hp.bel (by omega),hp.inj (by omega) (by omega) (by omega),?_⟩
     dsimp only
     rw[hup,if_pos rfl]
     exact⟨rfl,rfl,zR _,(show m<=_ by omega),h3⟩
theorem N0 {α:Type}{xs ys:Array α}{i j:Nat}{d:α}(h:xs[i]?=ys[j]?):xs.getD i d=ys.getD j d:=by
 rw[b4Q,b4Q,h]
theorem cS {p:Array Nat}(hp:Pm n p) (i j:Nat):Pm n (kas_rev p i j):=(Array.perm_iff_toList_perm.mp (mirror_perm _ _ _ _)).trans hp
theorem W6 (S:Strict n lt) {p:Array Nat}(hp:Pm n p) {m:Nat}(h1:1<=m) (h2:m<=n) (h3:Dn lt p m) :
   Good n lt (fun r=>1<=r.1/\r.1<=n/\Pm n r.2/\Up lt r.2 r.1) (kas_tail3 m n p):=by
 unfold kas_tail3
 refine Good.bind ((NP S (cS hp 0 m) (n - m) m h1 (by omega) fun i j hij hj=>?_).mono fun r ⟨a,b,c,_⟩=>⟨by omega,by omega,cS hp 0 m,c⟩)
 have hz:m<=p.size:=by rw[hp.size];exact h2
 have e:∀k,k < m->(kas_rev p 0 m).getD k 0=p.getD (m - 1 - k) 0:=fun k hk=>by
   refine N0 ?_
   unfold kas_rev
   rw[getElem?_mirror_all (i:=0) hz k,if_pos ⟨xT _,hk⟩,b6W]
 rw[e i (by omega),e j (by omega)]
 exact h3 _ _ (by omega) (by omega)
theorem P3 (S:Strict n lt) {p:Array Nat}(hp:Pm n p) {m:Nat}(h2:m+1<=n) (h3:Dn lt p (m+1)) :
   Good n lt (fun r=>1<=r.1/\r.1<=n/\Pm n r.2/\Up lt r.2 r.1) (kas_descPart m n p):=by
 unfold kas_descPart
 refine Good.bind ((Q6 S hp (n - (m+1)) (m+1) (by omega) (by omega) h3).mono fun r ⟨a,b,c,d,e⟩=>?_)
 rw[b,if_neg (yF 0),a]
 exact W6 S hp (by omega) (by omega) e
theorem W7 (S:Strict n lt) {p:Array Nat}(hp:Pm n p) (h2:1<=n) :
   Good n lt (fun r=>1<=r.1/\r.1<=n/\Pm n r.2/\Up lt r.2 r.1) (kas_count n p):=by
 unfold kas_count
 refine Good.bind ((NP S hp (n - 1) 1 (zR _) (by omega) fun i j hij hj=>by omega).mono fun r ⟨a,b,c,d⟩=>?_)
 by_cases hr:r=n
 · subst hr
   rw[if_pos (by simp)]
   exact⟨a,zR _,hp,c⟩
 · rw[if_neg (by simpa using hr)]
   have hlt:lt (p.getD r 0) (p.getD (r - 1) 0)=true:=d.resolve_left (by omega)
   by_cases h1:r > 1
   · rw[if_pos h1]
     refine⟨hp.bel (by omega),hp.bel (by omega),hp.inj (by omega) (by omega) (by omega),?_⟩
     dsimp only
     rw[c 0 (r - 1) (by omega) (by omega),if_pos rfl]
     exact⟨a,by omega,hp,c⟩
   · rw[if_neg h1]
     have e:r=1:=by omega
     subst e
     refine P3 S hp (by omega) fun i j hij hj=>?_
     have e1:i=0:=by omega
     have e2:j=1:=by omega
     subst e1 e2
     exact hlt
theorem JN (S:Strict n lt) {p:Array Nat}(hp:Pm n p) {k:Nat}(hk:k < n) (hu:Up lt p k):∀(f l r:Nat),l<=r->r<=k->r - l<=f ->
   (∀i,i < l->lt (p.getD i 0) (p.getD k 0)=true)->(∀i,r<=i->i < k->lt (p.getD k 0) (p.getD i 0)=true) ->
   Good n lt (fun x=>x<=k/\(∀i,i < x->lt (p.getD i 0) (p.getD k 0)=true)/\∀i,x<=i->i < k->lt (p.getD k 0) (p.getD i 0)=true) (kas_place p k f l r)
 | 0,l,r,h1,h2,h3,h4,h5=>by
   unfold kas_place
   exact⟨by omega,h4,fun i hi hik=>h5 i (by omega) hik⟩
 | f+1,l,r,h1,h2,h3,h4,h5=>by
   unfold kas_place
   by_cases hge:l≥r
   · rw[if_pos hge]
     exact⟨by omega,h4,fun i hi hik=>h5 i (by omega) hik⟩
   · rw[if_neg hge]
     have hm:l<=(l+r)/2/\(l+r)/2 < r:=by omega
     generalize (l+r)/2=m at hm ⊢
     obtain⟨hm1,hm2⟩:=hm
     have hmk:m < k:=zP hm2 h2
     have hmn:m < n:=Nat.lt_trans hmk hk
     refine⟨hp.bel hk,hp.bel hmn,hp.inj hk hmn (a9K hmk),?_⟩
     cases hc:lt (p.getD k 0) (p.getD m 0) with
     | true=>
       dsimp only
       rw[if_pos rfl]
       refine JN S hp hk hu f l m hm1 (xR hmk) (by omega) h4 fun i hi hik=>?_
       by_cases e:i=m
       · subst e;exact hc
       · exact S.tr _ _ _ hc (hu _ _ (Nat.lt_of_le_of_ne hi (b1Q e)) hik)
     | false=>
       dsimp only
       rw[if_neg nft]
       have hup:lt (p.getD m 0) (p.getD k 0)=true:=(S.tot _ _ (hp.bel hmn) (hp.bel hk) (hp.inj (i:=m) (j:=k) hmn hk (zC hmk))).elim id fun z=>by rw[hc] at z;cases z
       refine JN S hp hk hu f (m+1) r hm2 h2 (by omega) (fun i hi=>?_) h5
       by_cases e:i=m
       · subst e;exact hup
       · exact S.tr _ _ _ (hu _ _ (by omega) (by omega)) hup
theorem U1 (S:Strict n lt):∀(f:Nat) {p:Array Nat}{k:Nat},Pm n p->k+f=n->Up lt p k->Good n lt (fun q=>Pm n q/\Up lt q n) (kas_bin f p k)
 | 0,p,k,hp,h1,h2=>by
   have e:k=n:=by omega
   subst e
   exact⟨hp,h2⟩
 | f+1,p,k,hp,h1,h2=>by
   unfold kas_bin
   refine Good.bind ((JN S hp (by omega) h2 k 0 k (xT _) (zR _) (by omega) (fun i hi=>by omega) fun i hi hk=>by omega).mono fun x ⟨hx,a,b⟩=>?_)
   have hks:k < p.size:=by rw[hp.size];omega
   refine U1 S f ((Array.perm_iff_toList_perm.mp (bubble_perm _ _ _)).trans hp) (by omega) fun i j hij hj=>?_
   have e:∀q,(bubble p k (k - x)).getD q 0=if q=x then p.getD k 0 else if x < q/\q<=k then p.getD (q - 1) 0 else p.getD q 0:=fun q=>by
     have:=getElem?_bubble hks (k - x) (by omega) q
     rw[show k - (k - x)=x by omega] at this
     by_cases c1:q=x
     · rw[if_pos c1] at this ⊢;exact N0 this
     · rw[if_neg c1] at this ⊢
       by_cases c2:x < q/\q<=k
       · rw[if_pos c2] at this ⊢;exact N0 this
       · rw[if_neg c2] at this ⊢;exact N0 this
   obtain⟨g,hg⟩:∃g:Nat->Nat,∀i,p.getD i 0=g i:=⟨_,fun _=>rfl⟩
   have h2':∀i j,i < j->j < k->lt (g i) (g j)=true:=fun i j x y=>by rw[← hg,← hg];exact h2 i j x y
   rw[e,e]
   simp only[hg] at a b ⊢
   clear e
   rcases Nat.lt_trichotomy j x with hj' | hj' | hj'
   · have hi':i < x:=Nat.lt_trans hij hj'
     rw[if_neg (zC hi'),if_neg (fun z=>Nat.lt_asymm z.1 hi'),if_neg (zC hj'),if_neg (fun z=>Nat.lt_asymm z.1 hj')]
     exact h2' _ _ hij (zP hj' hx)
   · subst hj'
     rw[if_neg (zC hij),if_neg (fun z=>Nat.lt_asymm z.1 hij),if_pos rfl]
     exact a _ hij
   · obtain⟨j',rfl⟩:∃j',j=j'+1:=⟨j - 1,by omega⟩
     have hjk:j' < k:=Nat.lt_of_succ_le (Nat.le_of_lt_succ hj)
     have hxj:x<=j':=Nat.le_of_lt_succ hj'
     rw[if_neg (a9K hj') (c:=j'+1=x),if_pos (c:=x < j'+1/\j'+1<=k) ⟨hj',hjk⟩,Nat.add_sub_cancel]
     rcases Nat.lt_trichotomy i x with hi' | hi' | hi'
     · rw[if_neg (zC hi'),if_neg (fun z=>Nat.lt_asymm z.1 hi')]
       exact h2' _ _ (zP hi' hxj) hjk
     · rw[if_pos hi']
       exact b _ hxj hjk
     · obtain⟨i',rfl⟩:∃i',i=i'+1:=⟨i - 1,by omega⟩
       have hij':i' < j':=Nat.lt_of_succ_lt_succ hij
       rw[if_neg (a9K hi'),if_pos (c:=x < i'+1/\i'+1<=k) ⟨hi',Nat.lt_trans hij' hjk⟩,Nat.add_sub_cancel]
       exact h2' _ _ hij' hjk
theorem ZE (S:Strict n lt) (h1:1<=n):Good n lt (fun q=>Pm n q/\Up lt q n) (kas_sort n):=by
 unfold kas_sort
 refine Good.bind ((W7 S (show Pm n _ from .refl _) h1).mono fun r ⟨a,b,c,d⟩=>?_)
 have e:max r.1 1=r.1:=by omega
 rw[e]
 by_cases hr:r.1 < n
 · rw[if_pos hr]
   exact U1 S _ c (by omega) d
 · rw[if_neg hr]
   have e:r.1=n:=by omega
   rw[e] at d
   exact⟨c,d⟩
end
end L2
namespace L2
open PySem PySem.Spec PyProof.Rows PySem.W
def TupsN (h:Heap) (vs:List Value) (ns:List Str):Prop:=
 vs.length=ns.length/\∀(i:Nat) (v:Value) (nm:Str),vs[i]?=some v->ns[i]?=some nm->∃(a:Addr) (o:Obj) (xs:Array Value) (k:Nat) (t:Tok),v=a0X a/\h.get? a=some o/\o.cls = .type "tuple" /\ o.data = .seq xs k/\xs[0]?=some (.str nm t)
theorem TupsN.keep {h h':Heap}{vs:List Value}{ns:List Str}(t:TupsN h vs ns) (hk:∀b o,o.cls = .type "tuple" -> h.get? b=some o->h'.get? b=some o):TupsN h' vs ns:=
 ⟨t.1,fun i v nm e1 e2=>let ⟨a,o,xs,k,t',h1,h2,h3,h4,h5⟩:=t.2 i v nm e1 e2;⟨a,o,xs,k,t',h1,hk a o h3 h2,h3,h4,h5⟩⟩
theorem TupsN.kat {h:Heap}:∀{vs:List Value}{ns:List Str},TupsN h vs ns->∃fs,KatTups h vs fs/\fs.length=ns.length/\∀v∈fs,∃x t,v=Value.str x t
 | [],[],_=>⟨[],trivial,rfl,fun v hv=>nomatch hv⟩
 | [],_::_,t=>by have:=t.1;simp at this
 | _::_,[],t=>by have:=t.1;simp at this
 | v::vs,nm::ns,t=>by
   obtain⟨a,o,xs,k,t',rfl,h2,h3,h4,h5⟩:=t.2 0 v nm rfl rfl
   obtain⟨fs,q1,q2,q3⟩:=TupsN.kat (vs:=vs) (ns:=ns) ⟨by have:=t.1;simpa using this,fun i v nm e1 e2=>t.2 (i+1) v nm (by simpa using e1) (by simpa using e2)⟩
   exact⟨_,KatTups.cons h2 h3 h4 h5 q1,by simp[q2],fun v hv=>(yX.mp hv).elim (fun e=>⟨_,_,e⟩) (q3 v)⟩
section
variable {prog:Program}{w:World}{A:Around}{E:Value->Shared->Prop}{s:Shared}
theorem cT {vs:List Value}{ns:List Str}(t:TupsN s.heap vs ns) (nd:ns.Nodup) {i j:Nat}(hi:i < ns.length) (hj:j < ns.length) (hij:i≠j) {C:Bool->Shared->Prop}(h:C (decide ((ns.getD i "").cps.toList < (ns.getD j "").cps.toList)) s) :
   kas_ask prog w A (tuples' true) vs i j C s:=by
 unfold kas_ask
 have hl:=t.1
 have e1:vs[i]?=some (vs.getD i a4J):=by rw[yU,zV (by omega)];rfl
 have e2:vs[j]?=some (vs.getD j a4J):=by rw[yU,zV (by omega)];rfl
 have f1:ns[i]?=some (ns.getD i ""):=by rw[yU,zV hi];rfl
 have f2:ns[j]?=some (ns.getD j ""):=by rw[yU,zV hj];rfl
 have hne:ns.getD i "" ≠ ns.getD j "" := fun e=>by
   rw[yU,yU,zV hi,zV hj] at e
   rcases Nat.lt_or_gt_of_ne hij with q | q
   · exact List.pairwise_iff_getElem.mp nd i j hi hj q e
   · exact List.pairwise_iff_getElem.mp nd j i hj hi q e.symm
 generalize vs.getD i a4J=v at e1 ⊢
 generalize vs.getD j a4J=u at e2 ⊢
 obtain⟨a,o,xs,k,t1,rfl,a2,a3,a4,a5⟩:=t.2 i v _ e1 f1
 obtain⟨b,o',ys,k',t2,rfl,b2,b3,b4,b5⟩:=t.2 j u _ e2 f2
 refine kat_lt a2 a4 b2 b4 ?_
 have x1:xs.toList[0]?=some (.str (ns.getD i "") t1):=by rw[a5X];exact a5
 have y1:ys.toList[0]?=some (.str (ns.getD j "") t2):=by rw[a5X];exact b5
 obtain⟨xr,hx⟩:∃r,xs.toList = .str (ns.getD i "") t1::r:=by
   cases hh:xs.toList with
   | nil=>rw[hh] at x1;cases x1
   | cons q r=>rw[hh] at x1;cases x1;exact⟨r,rfl⟩
 obtain⟨yr,hy⟩:∃r,ys.toList = .str (ns.getD j "") t2::r:=by
   cases hh:ys.toList with
   | nil=>rw[hh] at y1;cases y1
   | cons q r=>rw[hh] at y1;cases y1;exact⟨r,rfl⟩
 rw[hx,hy,a6W]
 refine kat_cons (wpAny_eqBool_str ?_)
 rw[decide_eq_false hne]
 refine kat_no ?_
 show wpAny (model prog w) A (oneLt' true _ _) C (fun _ _=>False) s
 exact oneLt_str h
theorem NQ {a:Addr}{vs:List Value}{ns:List Str}{n:Nat}{P:PySem.Fin->Shared->Prop}(ho:s.heap.get? a=some (seqObj "list" vs.toArray n)) (t:TupsN s.heap vs ns) (nd:ns.Nodup) (h64:vs.length < 64)
   (h:∀p:List Nat,p.Perm (a0J vs.length)->(∀i j,i < j->j < vs.length->(ns.getD (p.getD i 0) "").cps.toList < (ns.getD (p.getD j 0) "").cps.toList) ->
     P (.done (.ret .none)) { s with heap:=sortedHeap s.heap a vs (p.map fun i=>vs.getD i a4J).toArray }) :
   wpAny (model prog w) A (Builtin.«list.sort» ⟨[.ref a],[]⟩) P E s:=by
 have ha:a < s.heap.objs.size:=zM ho
 rw[list_sort_plain];refine zZ (listItems_at ho rfl ?_)
 refine zZ (listUpdate_at ho rfl ?_ (by rw[zJ,sizeLine_eq];omega) (xT _));obtain⟨e1,ho1⟩:∃e1,(s.heap.update a (a6K fun _=>(#[]:Array Value))).get? a=some (seqObj "list" #[] e1):=⟨_,get?_update_seq ho (fun _=>#[])⟩
 refine zZ (seqEpoch_at ho1 rfl (zZ (wpAny_newTuple ?_ (by show vs.length<=_;rw[sizeLine_eq];omega))))
 refine zZ (wpAny_newList (wpAny_holding ?_) (xT _))
 have hsz:vs.toArray.size=vs.length:=zJ ..
 have keepT:∀b o,o.cls = .type "tuple" -> s.heap.get? b=some o->(((s.heap.update a (a6K fun _=>(#[]:Array Value))).push (seqObj "tuple" vs.toArray 0)).push (seqObj "list" #[] 0)).get? b=some o:=fun b o hc q=>by
   have hb:b≠a:=fun e=>by
     subst e
     rw[ho] at q
     cases q
     exact absurd hc (show ¬(Value.type "list"=Value.type "tuple") by decide)
   refine zW _ (zW _ ?_)
   rw[Heap.get?_update_ne _ _ _ _ hb]
   exact q
 have ho6:(((s.heap.update a (a6K fun _=>(#[]:Array Value))).push (seqObj "tuple" vs.toArray 0)).push (seqObj "list" #[] 0)).get? a=some (seqObj "list" #[] e1):=zW _ (zW _ ho1)
 show wpAny (model prog w) A _ P E { s with heap:=((s.heap.update a (a6K fun _=>(#[]:Array Value))).push (seqObj "tuple" vs.toArray 0)).push (seqObj "list" #[] 0) }
 dsimp only
 by_cases h2:vs.toArray.size < 2
 · rw[if_pos h2,if_pos h2]
   refine zZ (zY ?_)
   rw[StateT.run_pure]
   refine zZ (zY (zZ (seqEpoch_at ho6 rfl ?_)))
   have e3:(arrOf (SortSt.mk' general' (vs.toArray.zip vs.toArray) #[] 7 none)).map (·.2)=vs.toArray:=by
     show(vs.toArray.zip vs.toArray).map (·.2)=vs.toArray
     apply Array.toList_inj.mp
     rw[Array.toList_map,Array.toList_zip]
     exact List.map_snd_zip (zR _)
   rw[e3]
   refine zZ (listUpdate_at ho6 rfl ?_ (xT _) (by rw[zJ,sizeLine_eq];omega))
   simp only[bne_self_eq_false,b6J,if_false]
   have:=h (a0J vs.length) (.refl _) (fun i j hij hj=>by omega)
   have e4:(a0J vs.length).map (fun i=>vs.getD i a4J)=vs:=by
     apply b2V
     intro i
     rw[zF]
     by_cases hi:i < vs.length
     · rw[yA hi]
       simp[hi]
     · rw[a5J (by simp;omega),a5J (by omega)]
       rfl
   rw[e4] at this
   exact zY this
 · rw[if_neg h2,if_neg h2]
   have h2':2<=vs.length:=by omega
   have t6:=t.keep keepT
   obtain⟨fs,q1,q2,q3⟩:=t6.kat
   refine zZ (kat_kind (T:=.type "str") q1 (by have:=t.1;omega) (fun v hv=>?_) rfl ?_)
   · obtain⟨x,tt,rfl⟩:=q3 v hv
     exact Looks.of_pure rfl
   have hn:vs.length=ns.length:=t.1
   have S:Strict vs.length (fun i j=>decide (i < vs.length)&&(decide (j < vs.length)&&decide ((ns.getD i "").cps.toList < (ns.getD j "").cps.toList))):=by
     refine⟨fun i=>?_,fun i j k a b=>?_,fun i j hi hj hij=>?_⟩
     · simp[List.lt_irrefl]
     · simp only[a1Z,decide_eq_true_eq] at a b ⊢
       exact⟨a.1,b.2.1,List.lt_trans a.2.2 b.2.2⟩
     · simp only[a1Z,decide_eq_true_eq,hi,hj,true_and]
       have hne:(ns.getD i "").cps.toList≠(ns.getD j "").cps.toList:=fun e=>by
         have e':ns.getD i ""=ns.getD j "" := by
           generalize ns.getD i ""=x at e
           generalize ns.getD j ""=y at e
           obtain⟨⟨x⟩⟩:=x
           obtain⟨⟨y⟩⟩:=y
           simp at e
           rw[e]
         rw[yU,yU,zV (by omega),zV (by omega)] at e'
         rcases Nat.lt_or_gt_of_ne hij with q | q
         · exact List.pairwise_iff_getElem.mp nd i j (by omega) (by omega) q e'
         · exact List.pairwise_iff_getElem.mp nd j i (by omega) (by omega) q e'.symm
       by_cases c:(ns.getD i "").cps.toList < (ns.getD j "").cps.toList
       · exact .inl c
       · refine .inr ?_
         rcases List.le_iff_lt_or_eq.mp (List.not_lt.mp c) with z | z
         · exact z
         · exact absurd z.symm hne
   refine zZ (wpAny_mono (kat_run (ks:=vs) (G:=fun p s'=>s'={ s with heap:=((s.heap.update a (a6K fun _=>(#[]:Array Value))).push (seqObj "tuple" vs.toArray 0)).push (seqObj "list" #[] 0) }/\Pm vs.length p/\Up _ p vs.length)
     (Q:=fun st' s'=>s'={ s with heap:=((s.heap.update a (a6K fun _=>(#[]:Array Value))).push (seqObj "tuple" vs.toArray 0)).push (seqObj "list" #[] 0) }/\failedOf st'=none/\∃p:Array Nat,Pm vs.length p/\Up _ p vs.length/\(arrOf st').map (·.2)=List.toArray (p.toList.map fun i=>vs.getD i a4J))
     rfl h2' h64 (fun p st' s' a1 a2 a3 a4=>⟨a4.1,a3,p,a4.2.1,a4.2.2,kat_snds rfl a2⟩) ((ZE S (by omega)).wp (fun i j C hi hj hij hC=>?_) fun p hp=>⟨rfl,hp.1,hp.2⟩)) ?_ fun _ _ e=>e)
   · refine cT t6 nd (by omega) (by omega) hij ?_
     simp only[hi,hj,decide_true,Bool.true_and] at hC
     exact hC
   · rintro⟨⟨⟩,st'⟩ s' ⟨rfl,hf,p,hp,hu,hm⟩
     dsimp only
     refine zZ (seqEpoch_at ho6 rfl ?_)
     rw[hm]
     refine zZ (listUpdate_at ho6 rfl ?_ (xT _) (by
       have z:=hp.length_eq
       simp only[xZ,a4Q] at z
       simp only[zJ,zX,a4Q]
       rw[sizeLine_eq];omega))
     rw[hf]
     simp only[bne_self_eq_false,b6J,if_false]
     refine zY (h p.toList hp fun i j hij hj=>?_)
     have:=hu i j hij hj
     simp only[a1Z,decide_eq_true_eq] at this
     have ed:∀k,p.toList.getD k 0=p.getD k 0:=fun k=>by rw[yU,b4Q,a5X]
     rw[ed,ed]
     exact this.2.2
theorem U2 {l:Addr}{vs:List Value}{Q:List Value->Shared->Prop}(hl:s.heap.IsList l vs.toArray∨s.heap.IsTuple l vs.toArray)
   (h:Q vs { s with heap:=(s.heap.push (seqObj "list" #[] 0)).update s.heap.objs.size (a6K (·++vs.toArray)) }) (hsz:vs.length<=sizeLine) :
   wpAny (model prog w) A (collect (.ref l)) Q E s:=by
 rcases hl with hl | ⟨o,ho,hc,n,hd⟩
 · exact collect_list hl h hsz
 unfold collect
 refine zZ (wpAny_runValue (codeAny_builtin entry_proto_collect' ?_))
 show wpAny _ _ (do again (.builtin "list.__iadd__" ⟨[← newList [],.ref l],[]⟩)) _ _ s
 refine zZ (wpAny_newList (zY ⟨Code.quiet_builtin _ (by decide +kernel),codeAny_builtin entry_list_iadd' ?_⟩))
 show wpAny _ _ (b2K (.ref s.heap.objs.size) (.ref l) (.ref s.heap.objs.size)) _ _ { s with heap:=s.heap.push (seqObj "list" #[] 0) }
 unfold b2K
 have ho':(s.heap.push (seqObj "list" #[] 0)).get? l=some o:=zW _ ho
 refine zZ (wpAny_typeOf (T:= "tuple") ⟨o,ho',hc⟩ ?_)
 have ht:(Value.type "tuple" == Value.type "tuple")=true:=by rfl
 rw[if_pos (by rw[ht];simp)]
 refine zZ (listItems_at ho' hd ?_)
 refine zZ (listItems_at (xs:=#[]) (n:=0) (yZ _ rfl) rfl ?_)
 rw[if_neg (by simp)]
 refine zZ (listUpdate_at (xs:=#[]) (n:=0) (yZ _ rfl) rfl ?_ (xT _) (by show(#[]++vs.toArray).size<=sizeLine+1;simp only[Array.size_append,zJ,b4J];omega))
 refine zY ?_
 show wpAny (model prog w) A (do
     let o ← load s.heap.objs.size
     match o.data with
     | .seq xs _=>pure xs.toList
     | _=>unsupported "internal:collect") Q E { s with heap:=(s.heap.push (seqObj "list" #[] 0)).update s.heap.objs.size (a6K (·++vs.toArray)) }
 refine zZ (wpAny_load (get?_update_seq (yZ _ rfl) _) ?_)
 show wpAny _ _ (pure ((#[]:Array Value)++vs.toArray).toList) Q E _
 rw[show((#[]:Array Value)++vs.toArray).toList=vs by simp]
 exact zY h
theorem U3 {l:Addr}{vs:List Value}{ns:List Str}{Q:Value->Shared->Prop}(hl:s.heap.IsList l vs.toArray∨s.heap.IsTuple l vs.toArray) (t:TupsN s.heap vs ns) (nd:ns.Nodup) (h64:vs.length < 64)
   (h:∀p:List Nat,p.Perm (a0J vs.length)->(∀i j,i < j->j < vs.length->(ns.getD (p.getD i 0) "").cps.toList < (ns.getD (p.getD j 0) "").cps.toList) ->
     Q (.ref (s.heap.objs.size+1)) { s with heap:=sortedAll s.heap vs (p.map fun i=>vs.getD i a4J).toArray }) :
   wpAny (model prog w) A (call (.builtin "sorted") [.ref l]) Q E s:=by
 refine b6X kind_sorted plain_sorted entry_sorted (args_sorted1 _) ?_
 unfold Builtin.«sorted»;refine zZ (m:=checkCount "sorted" 1 1 _) (zY (zZ (U2 hl (zZ (wpAny_newList ?_ (by rw[sizeLine_eq];omega))) (by rw[sizeLine_eq];omega))))
 generalize hH:(s.heap.push (seqObj "list" #[] 0)).update s.heap.objs.size (a6K (·++vs.toArray))=H1
 have hsz:H1.objs.size=s.heap.objs.size+1:=by rw[← hH,Heap.size_update,size_push']
 have old:∀b o,s.heap.get? b=some o->(H1.push (seqObj "list" vs.toArray 0)).get? b=some o:=fun b o q=>by
   refine zW _ ?_
   rw[← hH,Heap.get?_update_ne _ _ _ _ (zC (zM q))]
   exact zW _ q
 have hoL:(H1.push (seqObj "list" vs.toArray 0)).get? (s.heap.objs.size+1)=some (seqObj "list" vs.toArray 0):=by
   rw[← hsz];exact yZ _ rfl
 show wpAny _ _ _ _ _ { s with heap:=H1.push (seqObj "list" vs.toArray 0) }
 rw[hsz]
 refine zZ (wpAny_holding (wpAny_call_entry slot_list_sort ⟨_,hoL,rfl⟩ entry_list_sort (NQ hoL (t.keep fun b o _ q=>old b o q) nd h64 fun p a1 a2=>⟨_,rfl,?_⟩) (args_list_sort _)))
 have:=h p a1 a2
 unfold sortedAll at this
 rw[hH] at this
 exact zY ⟨_,rfl,this⟩
theorem U4 {d:Addr}{kvs:List (Key×Value)}{ss:List Str}{Q:Value->Shared->Prop}(hh:A.handled=none) (hd:(d==sysModules)=false) (dd:s.heap.DictOf (AK prog w) d kvs) (hk:kvs.map (·.1)=ss.map a0V) (h64:ss.length < 64)
   (h:∀(h1 h':Heap) (tk:Nat) (out:List Value) (e:Nat) (ss':List Str),(∀b o,s.heap.get? b=some o->h1.get? b=some o)->(∀b o,h1.get? b=some o->h'.get? b=some o)->h'.get? h1.objs.size=some (seqObj "list" out.toArray e)->StrsAre out ss'->ss'.Perm ss->sortedS ss'=true->Q (.ref h1.objs.size) { s with heap:=h',toks:=tk }) :
   wpAny (model prog w) A (call (.builtin "sorted") [.ref d]) Q E s:=by
 refine b6X kind_sorted plain_sorted entry_sorted (args_sorted1 _) ?_
 obtain⟨ep,hat⟩:=dd.dictAt
 have hlen:kvs.length=ss.length:=by have:=congrArg b2W hk;simpa using this
 unfold Builtin.«sorted»;refine zZ (m:=checkCount "sorted" 1 1 _) (zY (zZ (kdu_collect (A:=A.in1) (kdl_dict (kvs:=kvs) (ep:=ep) hd) hh hat (by rw[hlen,sizeLine_eq];omega) fun h' tk acc hold hacc=>?_)))
 have hl:acc.toList.length=ss.length:=by rw[a4Q,hacc.1,hlen]
 have hS:StrsAre acc.toList ss:=by
   have go:∀(vs:List Value) (zs:List Str),vs.length=zs.length->(∀(i:Nat) v x,vs[i]?=some v->zs[i]?=some x->∃t,v=Value.str x t)->StrsAre vs zs:=by
     intro vs
     induction vs with
     | nil=>intro zs hz _;cases zs with
       | nil=>exact .nil
       | cons _ _=>simp at hz
     | cons v vs ih=>intro zs hz hv;cases zs with
       | nil=>simp at hz
       | cons x zs=>
         obtain⟨t,rfl⟩:=hv 0 v x rfl rfl
         exact .cons x t (ih zs (by simpa using hz) fun i v x e1 e2=>hv (i+1) v x (by simpa using e1) (by simpa using e2))
   refine go _ _ hl fun i v x e1 e2=>?_
   obtain⟨k,y,g1,g2⟩:=hacc.2 i v (by rw[← a5X];exact e1)
   have e3:(kvs.map (·.1))[i]?=some k:=by rw[zF,g1];rfl
   rw[hk,zF,e2] at e3
   cases e3
   have g2':JU (.inr x) v=true:=g2
   rcases AZ g2' with ⟨i,t,e,_⟩ | ⟨z,t,e,e'⟩
   · cases e
   · cases e;exact⟨t,e'⟩
 refine zZ (wpAny_newList ?_ (by rw[hl,sizeLine_eq];omega))
 have hoL:(h'.push (seqObj "list" acc.toList.toArray 0)).get? h'.objs.size=some (seqObj "list" acc.toList.toArray 0):=yZ _ rfl
 show wpAny _ _ _ _ _ { s with heap:=h'.push (seqObj "list" acc.toList.toArray 0),toks:=tk }
 refine zZ (wpAny_holding (wpAny_call_entry (s:={ s with heap:=h'.push (seqObj "list" acc.toList.toArray 0),toks:=tk }) slot_list_sort ⟨_,hoL,rfl⟩ entry_list_sort (list_sort_treeK strKind_oneLt hoL hS.keysOf (fun v₁ v₂ rest e=>keyKind_strs (by rw[← e];exact hS)) (by rw[hl];exact h64) fun st' hp hs=>⟨_,rfl,?_⟩) (args_list_sort _)))
 obtain⟨ss',h1,h2,h3⟩:=sorted_out_str hS hp hs
 obtain⟨e,he⟩:=sortedHeap_at (out:=(arrOf st').map (·.2)) hoL
 refine zY ⟨_,rfl,h h' _ tk ((arrOf st').map (·.2)).toList e ss' hold (fun b o q=>?_) (by rw[b3J];exact he) h1 h2 h3⟩
 have lt:b < h'.objs.size:=zM q
 rw[sortedHeap_old (zC lt) (by rw[size_push'];exact b8J lt)]
 exact zW _ q
end
end L2
namespace L2
open PySem PySem.Spec PyProof.Rows
def tlD (prog:Program) (w:World) (A:Around) (kx vx:Expr):Env->Addr->(Shared->Prop)->Shared->Prop:=fun env D P s=>wpAny (model prog w) A (eval kx env) (fun kv s₄=>wpAny (model prog w) A (eval vx env) (fun vv s₅=>wpAny (model prog w) A (dictSet D kv vv) (fun _ s₆=>P s₆) (fun _ _=>False) s₅) (fun _ _=>False) s₄) (fun _ _=>False) s
theorem iP {prog:Program}{w:World}{A:Around}{kx vx target iter:Expr}{ifs:List Expr}{scope:Scope}{pos:Pos}:RF prog w A (.DictComp kx vx [⟨target,iter,ifs,0⟩] scope pos) target ifs (tlD prog w A kx vx):=by
 intro it D env R I turn n s h
 refine codeAny_loop rfl I (fun n s hI=>?_) n h
 show wpAny _ A ((compTurn (.DictComp kx vx [⟨target,iter,ifs,0⟩] scope pos) 0 (.ref it) (.ref D) env).onRaise (fun x=>do noteFrame x env;theTreesLotGoes x)) _ _ s
 refine wpAny_noted ?_
 rw[compTurn_dict]
 refine zZ (wpAny_standAt (zZ (wpAny_mono (AI (turn n s hI)) (fun r s₁ h₁=>?_) fun _ _ h'=>h')))
 cases r with
 | none=>exact zY h₁
 | some v=>
   refine zZ (wpAny_mono (AI h₁) (fun _ s₀ h₀=>?_) fun _ _ h'=>h')
   refine zZ (wpAny_mono (AI h₀) (fun _ s₂ h₂=>zZ (wpAny_mono (AI h₂) (fun ok s₃ h₃=>?_) fun _ _ h'=>h')) fun _ _ h'=>h')
   cases ok with
   | false=>exact zY ⟨rfl,h₃⟩
   | true=>
     exact zZ (zZ (wpAny_mono (AI h₃) (fun kv s₄ h₄=>zZ (wpAny_holding (wpAny_mono (AI h₄) (fun vv s₅ h₅=>zZ (wpAny_standAt (wpAny_holding (wpAny_mono (AI h₅) (fun _ s₆ h₆=>zY ⟨rfl,h₆⟩) fun _ _ h'=>h')))) fun _ _ h'=>h'))) fun _ _ h'=>h'))
theorem nK {X:Cx}{pins:List (Addr×Obj)}{σ:St}{H:Hp}{s:Shared}{a:Addr}{kvs:List (Key×V)}{k:Key}{v:V}{u r:Value}{A:Around}{E:Value->Shared->Prop}{Q:Unit->Shared->Prop}
   (I:Inv X pins σ H s) (e:H a=some (.dK kvs)) (l:kvs.length < sizeLine) (ry:RelV (kV k) u) (rv:RelV v r) (h:∀s',Inv X pins σ (upd H a (.dK (CV kvs k v))) s'->Q () s'):wpAny (model X.prog X.w) A (dictSet a u r) Q E s:=by
 obtain⟨z,hd,vs,rel,dd⟩:=aZ I.hok e
 have hz:vs.length<=sizeLine:=by rw[← rel.length];exact z
 have hl:(CV kvs k v).length<=sizeLine:=by have:=EQ kvs k v;omega
 refine wpAny_dictSet_pairs (hsz:=hz) (LP ry) dd fun h' dd' hs=>h _ ?_
 have he:∃q,h'.get? a=some q:=let ⟨q,_,_,hq,_⟩:=dd';⟨q,hq⟩
 exact MV I (by rw[e];exact a8X) hs he (VS hl hd (rel.put k rv) dd')
def NR (fr:List (Option Nat)) (wi:TI) (g:TG) (tt:TT) (tk tv:TE):TE:=fun σ H Q=>wi σ H fun J H1=>∀D,H1 D=none->∃W:Nat->Nat->List (Key×V)->Hp->Prop,(∃m,W 0 m [] (upd H1 D (.dK []))) /\
 ∀i m ys H2,W i m ys H2->H2 D=some (.dK ys)/\((J.stop i H2/\Q (.ref D) H2)∨(J.go i H2/\∀x H3,J.yld i H2 x H3->g x (capt fr σ) H3 fun σ2 H4=>
   (∀(i:Nat) v,(capt fr σ)[i]?=some (some v)->σ2[i]?=some (some v))/\tt σ2 H4 fun c H5=>if c=true then tk σ2 H5 fun x H6=>tv σ2 H6 fun y H7=>∃ys' k,x=kV k/\H7 D=some (.dK ys')/\ys'.length < sizeLine/\∃m',m' < m/\W (i+1) m' (CV ys' k y) (upd H7 D (.dK (CV ys' k y)))
     else ∃ys' m',m' < m/\W (i+1) m' ys' H5))
section
variable {X:Cx}{scope:Scope}{NC:List Str}{fr:List (Option Nat)}{pins:List (Addr×Obj)}{σ:St}{H:Hp}{s:Shared}
theorem Q7 {kx vx iter tg:Expr}{ifs:List Expr}{pos cpos:Pos}{wi:TI}{g:TG}{tt:TT}{tk tv:TE}{use:Option (Value->Sem Unit)}{Q:VK}{QQ:Value->Shared->Prop}
   (hc:X.calm=true) (S:CSc X scope NC fr) (hi:PI X tg iter wi)
   (hb:∀(C:Addr) (s:Shared) (H:Hp) (ex:List Addr) (pn:List (Addr×Obj)),PG (AO X scope NC C s H ex pn) tg g/\PTs (AO X scope NC C s H ex pn) ifs tt/\PE (AO X scope NC C s H ex pn) kx tk/\PE (AO X scope NC C s H ex pn) vx tv)
   (I:Inv X pins σ H s) (hu:X.A.units+1 < cLine) (h:NR fr wi g tt tk tv σ H Q)
   (fin:m5 X pins σ use Q QQ)
   (hs:∀x,foldedSetIterable iter X.env x=pure x) :
   wpAny (model X.prog X.w) X.A (comprehension (.DictComp kx vx [⟨tg,iter,ifs,0⟩] scope pos) scope X.env cpos newDict false (eval iter X.env) use) QQ X.xe s:=by
 refine L0 (y0:=[]) (at_:=.dK) (Ty:= "dict") (dt:=.dict #[]) (tl:=tlD X.prog X.w X.A kx vx) (el:=fun D m W σ2 H5=>tk σ2 H5 fun x H6=>tv σ2 H6 fun y H7=>∃ys' k,x=kV k/\H7 D=some (.dK ys')/\ys'.length < sizeLine/\∃m',m' < m/\W m' (CV ys' k y) (upd H7 D (.dK (CV ys' k y)))) rfl rfl (by size_fits) (fun H h b=>NA h b) iP codeAny_compStart_dict hc S hi (fun C s H ex pn=>⟨(hb C s H ex pn).1,(hb C s H ex pn).2.1,fun pn' s' σ H' D n W P I q k=>?_⟩) I h fin hs
 refine thn ((hb C s H ex pn).2.2.1 _ s' σ H' _ I q) fun yk s10 ⟨kv,H10,I10,r10,q10⟩=>thn ((hb C s H ex pn).2.2.2 _ s10 σ H10 _ I10 q10) fun yv s11 ⟨vv,H11,I11,r11,ys',kk,ek,hD,hsz,m',hm',w'⟩=>?_
 subst ek
 exact nK (X:=AO X scope NC C s H ex pn) I11 hD hsz r10 r11 fun s' I'=>k m' _ _ _ hm' w' I'
theorem cU {kx vx iter tg:Expr}{ifs:List Expr}{pos:Pos}{wi:TI}{g:TG}{tt:TT}{tk tv:TE}(hc:X.calm=true) (hu:X.A.units+1 < cLine) (S:CSc X scope NC fr) (hi:PI X tg iter wi)
   (hb:∀(C:Addr) (s:Shared) (H:Hp) (ex:List Addr) (pn:List (Addr×Obj)),PG (AO X scope NC C s H ex pn) tg g/\PTs (AO X scope NC C s H ex pn) ifs tt/\PE (AO X scope NC C s H ex pn) kx tk/\PE (AO X scope NC C s H ex pn) vx tv)
   (hs:∀x,foldedSetIterable iter X.env x=pure x:=by intro _;rfl):PE X (.DictComp kx vx [⟨tg,iter,ifs,0⟩] scope pos) (NR fr wi g tt tk tv):=by
 intro pins s σ H Q I h
 rw[arm_eval_DictComp]
 refine Q7 (use:=none) (Q:=Q) hc S hi hb I hu h (fun D C H' s' m oC I' hn q back _ h' sb=>?_) hs
 exact⟨.ref D,H',back pins σ H' s' h' I' sb,rfl,q⟩
end
end L2
namespace L2
open PySem PySem.Spec PyProof.Rows PySem.W
def cV (K:Frg):List V->Hp->VK->Prop:=fun xs H Q=>∃(p:Addr) (es:List (Addr×Str×List V)),xs=[.ref p]/\(SqL K H p (es.map fun e=>V.ref e.1)∨SqT K H p (es.map fun e=>V.ref e.1))/\(∀e∈es,SqT K H e.1 (.str e.2.1::e.2.2))/\(es.map fun e=>e.2.1).Nodup/\es.length < 64 /\
 ∀(es':List (Addr×Str×List V)) (q:Addr),es'.Perm es->es'.Pairwise (fun x y=>x.2.1.cps.toList < y.2.1.cps.toList)->H q=none->Q (.ref q) (upd H q (.lst (es'.map fun e=>V.ref e.1)))
def cW:List V->Hp->VK->Prop:=fun xs H Q=>∃(p:Addr) (kvs:List (Key×V)) (ss:List Str),xs=[.ref p]/\Rd H p (.dK kvs)/\kvs.map (·.1)=ss.map a0V/\ss.length < 64 /\
 ∀(ss':List Str) (q:Addr),ss'.Perm ss->sortedS ss'=true->H q=none->Q (.ref q) (upd H q (.lst (ss'.map V.str)))
def L5 (K:Frg):List V->Hp->VK->Prop:=fun xs H Q=>RO K xs H Q∨cV K xs H Q∨cW xs H Q
section
variable {X:Cx}
theorem Q8:∀{es:List (Addr×Str×List V)}{its:List Value},Vals (es.map fun e=>V.ref e.1) its->its=es.map fun e=>a0X e.1
 | [],_,.nil=>rfl
 | _::_,_,.cons r t=>by rw[Q8 t];cases r;rfl
theorem Q9:∀{es:List (Addr×Str×List V)},Vals (es.map fun e=>V.ref e.1) (es.map fun e=>a0X e.1)
 | []=>.nil
 | _::_=>.cons rfl Q9
theorem W8:B6 X (.builtin "sorted") (cV X.K):=by
 intro pins s σ H xs us Q I r h
 obtain⟨p,es,rfl,hp,ht,nd,h64,q⟩:=h
 obtain⟨u,rfl,ru⟩:=DZ r
 cases ru
 obtain⟨its,rv,pl⟩:∃its:List Value,Vals (es.map fun e=>V.ref e.1) its/\(s.heap.IsList p its.toArray∨s.heap.IsTuple p its.toArray):=by
   rcases hp with hp | hp
   · obtain⟨its,rv,pl,_⟩:=I.list hp
     exact⟨its,rv,.inl pl.isList⟩
   · obtain⟨its,rv,pl,_⟩:=I.tuple hp
     exact⟨its,rv,.inr pl⟩
 have ei:=Q8 rv
 subst ei
 have tn:TupsN s.heap (es.map fun e=>a0X e.1) (es.map fun e=>e.2.1):=by
   refine⟨by simp,fun i v nm e1 e2=>?_⟩
   rw[zF] at e1 e2
   cases he:es[i]? with
   | none=>rw[he] at e1;cases e1
   | some e=>
     rw[he] at e1 e2
     cases e1
     cases e2
     obtain⟨js,rj,⟨o,ho,hc,n,hd⟩,_⟩:=I.tuple (ht e (yN he))
     cases rj with
     | cons r0 _=>
       obtain⟨t,rfl⟩:=r0
       exact⟨e.1,o,_,n,t,rfl,ho,hc,hd,by simp⟩
 refine U3 pl tn nd (by simpa using h64) fun pm h1 h2=>?_
 simp only[zX] at h1 h2
 obtain⟨e,he⟩:=sortedAll_at s.heap (es.map fun e=>a0X e.1) (pm.map fun i=>(es.map fun e=>a0X e.1).getD i a4J).toArray
 have hn:H (s.heap.objs.size+1)=none:=I.hok.fresh (b5Z _)
 obtain⟨es',he'⟩:∃es':List (Addr×Str×List V),es'=pm.filterMap fun i=>es[i]?:=⟨_,rfl⟩
 have hin:∀i∈pm,i < es.length:=fun i hi=>List.mem_range.mp (h1.mem_iff.mp hi)
 have emap:∀(l:List Nat),(∀i∈l,i < es.length)->(l.filterMap fun i=>es[i]?)=l.attach.map fun i=>es.getD i.1 (0, "", []):=fun l=>by
   intro hl
   induction l with
   | nil=>rfl
   | cons a l ih=>
     have ha:=hl a (by simp)
     rw[a1V,zV ha]
     simp only[List.attach_cons,zI,zD]
     rw[ih fun i hi=>hl i (yV _ hi)]
     simp[yU,zV ha]
 have emap':es'=pm.map fun i=>es.getD i (0, "", []):=by
   rw[he',emap pm hin]
   simp
 have perm:es'.Perm es:=by
   rw[he']
   refine(h1.filterMap _).trans ?_
   rw[show((a0J es.length).filterMap fun i=>es[i]?)=es from ?_]
   apply b2V
   intro i
   have:((a0J es.length).filterMap fun i=>es[i]?)=(a0J es.length).map fun i=>es.getD i (0, "", []):=by
     rw[emap _ fun i hi=>List.mem_range.mp hi]
     simp
   rw[this,zF]
   by_cases hi:i < es.length
   · rw[yA hi]
     simp[hi]
   · rw[a5J (by simp;omega),a5J (by omega)]
     rfl
 have outs:(pm.map fun i=>(es.map fun e=>a0X e.1).getD i a4J)=es'.map fun e=>a0X e.1:=by
   rw[emap',zD]
   apply yM
   intro i hi
   have hi:=hin i hi
   simp[yU,zF,zV hi]
 have lenp:pm.length=es.length:=by have:=h1.length_eq;simpa using this
 have srt:es'.Pairwise (fun x y=>x.2.1.cps.toList < y.2.1.cps.toList):=by
   rw[emap',a6X,List.pairwise_iff_getElem]
   intro i j hi hj hij
   have:=h2 i j hij (by omega)
   have g:∀k (hk:k < pm.length),(es.map fun e=>e.2.1).getD (pm.getD k 0) (a0Q "")=(es.getD pm[k] (0, "", [])).2.1:=fun k hk=>by
     have hk':=hin pm[k] (b1X hk)
     rw[yU (l:=pm),zV hk]
     simp[yU,zF,zV hk']
   rw[g i hi,g j hj] at this
   exact this
 rw[outs] at he ⊢
 refine⟨.ref (s.heap.objs.size+1),_,I.laid (t':=s.toks) (o:=.lst (es'.map fun e=>V.ref e.1)) (fun b o eb=>sortedAll_old eb) (b5Z _) ?_,rfl,q es' _ perm srt hn⟩
 refine⟨by rw[zX,perm.length_eq];exact zN (xR h64) (by decide),es'.map fun e=>a0X e.1,e,Q9,?_⟩
 have he':=he
 simpa [seqObj] using he'
theorem W9 (hc:X.calm=true):B6 X (.builtin "sorted") cW:=by
 intro pins s σ H xs us Q I r h
 obtain⟨p,kvs,ss,rfl,hp,hk,h64,q⟩:=h
 obtain⟨u,rfl,ru⟩:=DZ r
 cases ru
 obtain⟨z,hd,vs,rel,dd⟩:=IU I.hok hp
 have hk':vs.map (·.1)=ss.map a0V:=by
   rw[← hk]
   clear hk dd z hp q
   unfold KV at rel
   induction rel with
   | nil=>rfl
   | cons h t ih=>simp[h.1,ih]
 refine U4 (I.ok.hd hc) hd dd hk' h64 fun h1 h' tk out e ss' k1 k2 ho hS hperm hsort=>?_
 have I1:Inv X pins σ H { s with heap:=h1,toks:=tk }:=I.kept k1
 have hn:H h1.objs.size=none:=I1.hok.fresh (zR _)
 refine⟨.ref h1.objs.size,_,I1.laid (t':=tk) (o:=.lst (ss'.map V.str)) (h':=h') k2 (zR _) ?_,rfl,q ss' _ hperm hsort hn⟩
 refine⟨by rw[zX,hperm.length_eq];exact zN (xR h64) (by decide),out,e,XH hS,?_⟩
 simpa [seqObj] using ho
theorem NS (hc:X.calm=true):B6 X (.builtin "sorted") (L5 X.K):=by
 intro pins s σ H xs us Q I r h
 rcases h with h | h | h
 · exact VX pins s σ H xs us Q I r h
 · exact W8 pins s σ H xs us Q I r h
 · exact W9 hc pins s σ H xs us Q I r h
end
end L2
namespace DL
open PySem PySem.Spec L2
def AV (ts:List (Str×PyData)):List (PyData×PyData):=ts.map fun t=>(a0K t.1,t.2)
def U5 (ts:List (Str×PyData)) (k:Str) (d:PyData):List (Str×PyData):=
 if (ts.any fun t=>decide (t.1=k))=true then ts.map (fun t=>if t.1=k then (t.1,d) else t) else ts++[(k,d)]
def AL:List (Str×PyData)->Str->Option PyData
 | [],_=>none
 | t::r,k=>if t.1=k then some t.2 else AL r k
section
variable {K:Frg}{H:Hp}{W:Addr->Prop}
theorem CF {t:Str×PyData}{ts:List (Str×PyData)}{ks:List (Key×V)}:DKV K H W (AV (t::ts)) ks↔∃v r,ks=(a0V t.1,v)::r/\DV K H W t.2 v/\DKV K H W (AV ts) r:=by
 unfold AV
 rw[zI]
 constructor
 · intro h
   unfold DKV at h
   obtain⟨k',v,r,e,e2,h1,h2⟩:=h
   cases k' with
   | inl i=>cases e2
   | inr x=>
     have e3:t.1=x:=by simpa [YU] using e2
     subst e3
     exact⟨v,r,e,h1,h2⟩
 · rintro⟨v,r,e,h1,h2⟩
   unfold DKV
   exact⟨a0V t.1,v,r,e,rfl,h1,h2⟩
theorem GE {ks:List (Key×V)}:DKV K H W (AV []) ks↔ks=[]:=by unfold AV;simp only[a5Z];unfold DKV;exact Iff.rfl
theorem XR {k:Str}:∀{ts:List (Str×PyData)}{ks:List (Key×V)},DKV K H W (AV ts) ks->(ks.any fun kv=>decide (kv.1=a0V k))=ts.any fun t=>decide (t.1=k)
 | [],ks,h=>by rw[GE.mp h];rfl
 | t::ts,ks,h=>by
   obtain⟨v,r,rfl,_,h2⟩:=CF.mp h
   rw[a6Q,a6Q,XR h2]
   congr 1
   by_cases e:t.1=k
   · rw[decide_eq_true e,decide_eq_true (by rw[e])]
   · rw[decide_eq_false e,decide_eq_false fun q=>e (by injection q)]
theorem NT {k:Str}{d:PyData}{v:V}(hd:DV K H W d v):∀{ts:List (Str×PyData)}{ks:List (Key×V)},DKV K H W (AV ts) ks ->
   DKV K H W (AV (ts.map fun t=>if t.1=k then (t.1,d) else t)) (ks.map fun kv=>if kv.1=a0V k then (kv.1,v) else kv)
 | [],ks,h=>by rw[GE.mp h];exact GE.mpr rfl
 | t::ts,ks,h=>by
   obtain⟨u,r,rfl,h1,h2⟩:=CF.mp h
   rw[zI,zI]
   by_cases e:t.1=k
   · rw[if_pos e,if_pos (by rw[e])]
     exact CF.mpr ⟨v,_,rfl,hd,NT hd h2⟩
   · rw[if_neg e,if_neg fun q=>e (by injection q)]
     exact CF.mpr ⟨u,_,rfl,h1,NT hd h2⟩
theorem U6 {k:Str}{d:PyData}{v:V}(hd:DV K H W d v):∀{ts:List (Str×PyData)}{ks:List (Key×V)},DKV K H W (AV ts) ks->DKV K H W (AV (ts++[(k,d)])) (ks++[(a0V k,v)])
 | [],ks,h=>by rw[GE.mp h];exact CF.mpr ⟨v,[],rfl,hd,GE.mpr rfl⟩
 | t::ts,ks,h=>by
   obtain⟨u,r,rfl,h1,h2⟩:=CF.mp h
   exact CF.mpr ⟨u,_,rfl,h1,U6 hd h2⟩
theorem XS {k:Str}{d:PyData}{v:V}{ts:List (Str×PyData)}{ks:List (Key×V)}(h:DKV K H W (AV ts) ks) (hd:DV K H W d v):DKV K H W (AV (U5 ts k d)) (CV ks (a0V k) v):=by
 unfold U5 CV
 rw[XR h]
 by_cases c:(ts.any fun t=>decide (t.1=k))=true
 · rw[if_pos c,if_pos c];exact NT hd h
 · rw[if_neg c,if_neg c];exact U6 hd h
theorem HR {k:Str}:∀{ts:List (Str×PyData)}{ks:List (Key×V)},DKV K H W (AV ts) ks->(∃d v,AL ts k=some d/\G7 ks (a0V k)=some v/\DV K H W d v)∨(AL ts k=none/\G7 ks (a0V k)=none)
 | [],ks,h=>by rw[GE.mp h];exact .inr ⟨rfl,rfl⟩
 | t::ts,ks,h=>by
   obtain⟨u,r,rfl,h1,h2⟩:=CF.mp h
   by_cases e:t.1=k
   · exact .inl ⟨t.2,u,by simp[AL,e],JY (by rw[e]),h1⟩
   · have e':¬(a0V t.1:Key)=a0V k:=fun q=>e (by injection q)
     rcases HR (k:=k) h2 with ⟨d,v,a1,a2,a3⟩ | ⟨a1,a2⟩
     · exact .inl ⟨d,v,by simp[AL,e,a1],by rw[HH (p:=(a0V t.1,u)) e'];exact a2,a3⟩
     · exact .inr ⟨by simp[AL,e,a1],by rw[HH (p:=(a0V t.1,u)) e'];exact a2⟩
theorem IL:∀{kvs:List (PyData×PyData)}{ks:List (Key×V)},DKV K H W kvs ks->ks.length=kvs.length
 | [],ks,h=>by unfold DKV at h;subst h;rfl
 | (k,d)::r,ks,h=>by unfold DKV at h;obtain⟨_,_,_,rfl,_,_,h2⟩:=h;simp[IL h2]
end
section
variable {K:Frg}{M:Own}{Q:DS->Own->Prop}{ρ:List (Option DS)}{H:Hp}{td ty tv:TE}{D:EndsD}
theorem U7 (h:DE K td ρ M fun x M1=>DE K ty ρ M1 fun y M2=>∃(a:Addr) (ts:List (Str×PyData)) (k:Str) (d:PyData),x = .loc a/\y = .d (.str k)/\M2 a=some (.d (AV ts))/\AL ts k=some d/\Q (.d d) M2):DE K (bA td ty) ρ M Q:=fun σ H QQ R kk=>
 h σ H _ R fun v H1 x M1 o1 s1 t1 h1=>h1 σ H1 _ (R.step o1 t1) fun u H2 y M2 o2 s2 t2 h2=>by
   obtain⟨a,ts,k,d,rfl,rfl,m,l,q⟩:=h2
   unfold SI at s1
   subst s1
   rw[BC s2]
   obtain⟨ks,e1,e2⟩:=o2 a _ m
   rcases HR (k:=k) e2 with ⟨d',w',a1,a2,a3⟩ | ⟨a1,a2⟩
   · rw[l] at a1
     cases a1
     exact⟨a,w',rfl,.inl ⟨ks,a0V k,.inl e1,rfl,a2.symm⟩,kk _ H2 (.d d) M2 o2 a3 (t1.trans t2) q⟩
   · rw[l] at a1;cases a1
theorem U8 (h:DE K td ρ M fun x M1=>DE K ty ρ M1 fun y M2=>∃(ts:List (Str×PyData)) (k:Str) (d:PyData),x = .d (.dict (AV ts))/\y = .d (.str k)/\AL ts k=some d/\Q (.d d) M2):DE K (bA td ty) ρ M Q:=fun σ H QQ R kk=>
 h σ H _ R fun v H1 x M1 o1 s1 t1 h1=>h1 σ H1 _ (R.step o1 t1) fun u H2 y M2 o2 s2 t2 h2=>by
   obtain⟨ts,k,d,rfl,rfl,l,q⟩:=h2
   have s1':=s1.step t2
   unfold SI DV at s1'
   obtain⟨a,ks,rfl,nw,e1,e2⟩:=s1'
   rw[BC s2]
   rcases HR (k:=k) e2 with ⟨d',w',a1,a2,a3⟩ | ⟨a1,a2⟩
   · rw[l] at a1
     cases a1
     exact⟨a,w',rfl,.inl ⟨ks,a0V k,e1,rfl,a2.symm⟩,kk _ H2 (.d d) M2 o2 a3 (t1.trans t2) q⟩
   · rw[l] at a1;cases a1
theorem XT (h:DE K ty ρ M fun y M1=>DE K td ρ M1 fun x M2=>∃(a:Addr) (ts:List (Str×PyData)) (k:Str),x = .loc a/\y = .d (.str k)/\M2 a=some (.d (AV ts))/\Q (.d (.bool (AL ts k).isSome)) M2):DE K (lX ty td) ρ M Q:=fun σ H QQ R kk=>
 h σ H _ R fun v H1 x M1 o1 s1 t1 h1=>h1 σ H1 _ (R.step o1 t1) fun u H2 y M2 o2 s2 t2 h2=>by
   obtain⟨a,ts,k,rfl,rfl,m,q⟩:=h2
   unfold SI at s2
   subst s2
   rw[BC s1]
   obtain⟨ks,e1,e2⟩:=o2 a _ m
   refine⟨a,G7 ks (a0V k),rfl,.inl ⟨ks,a0V k,.inl e1,rfl,rfl⟩,kk _ H2 _ M2 o2 ?_ (t1.trans t2) q⟩
   rcases HR (k:=k) e2 with ⟨d',w',a1,a2,a3⟩ | ⟨a1,a2⟩
   · rw[a1,a2];exact AT
   · rw[a1,a2];exact AT
theorem XU (h:DE K tv ρ M fun z M1=>DE K td ρ M1 fun x M2=>DE K ty ρ M2 fun y M3=>∃(a:Addr) (ts:List (Str×PyData)) (k:Str) (d:PyData),z = .d d/\x = .loc a/\y = .d (.str k)/\M3 a=some (.d (AV ts))/\ts.length < sizeLine/\D.nx ρ (M3.put a (.d (AV (U5 ts k d))))):DSt K (bB td ty tv) ρ M D:=fun σ H E R k1 k2 k3 k4=>
 h σ H _ R fun v H1 z M1 o1 s1 t1 h1=>h1 σ H1 _ (R.step o1 t1) fun u H2 x M2 o2 s2 t2 h2=>h2 σ H2 _ (R.step o2 (t1.trans t2)) fun yv H3 y M3 o3 s3 t3 h3=>by
   obtain⟨a,ts,k,d,rfl,rfl,rfl,m,hl,q⟩:=h3
   unfold SI at s2
   subst s2
   rw[BC s3]
   obtain⟨ks,e1,e2⟩:=o3 a _ m
   have hd:DV K H3 M3.W d v:=DV.grow (t2.trans t3).grow s1
   obtain⟨o4,t4⟩:=EC o3 m (XS (k:=k) e2 hd)
   have hlen:ks.length < sizeLine:=by rw[IL e2];unfold AV;rw[zX];exact hl
   have ta:=((t1.trans t2).trans t3).trans t4
   exact⟨a,_,rfl,.inl ⟨ks,a0V k,e1,rfl,hlen,rfl⟩,k1 ρ _ σ _ (R.step o4 ta) ta q⟩
def L6 (t:Str×List PyData):PyData:=.tuple (.str t.1::t.2)
theorem U9 {W:Addr->Prop}:∀{ts:List (Str×List PyData)}{vs:List V},DVs K H W (ts.map L6) vs->∃es:List (Addr×Str×List V),vs=es.map (fun e=>V.ref e.1)/\es.map (fun e=>e.2.1)=ts.map (·.1)/\(∀e∈es,SqT K H e.1 (.str e.2.1::e.2.2)) /\
   es.length=ts.length/\∀(i:Nat) e t,es[i]?=some e->ts[i]?=some t->DV K H W (L6 t) (.ref e.1)/\e.2.1=t.1
 | [],vs,h=>by unfold DVs at h;subst h;exact⟨[],rfl,rfl,(fun e he=>by simp at he),rfl,fun i e t h1 h2=>by simp at h1⟩
 | t::ts,vs,h=>by
   rw[zI] at h
   unfold DVs at h
   obtain⟨v,r,rfl,h1,h2⟩:=h
   obtain⟨es,rfl,e2,e3,e4,e5⟩:=U9 h2
   have h1':=h1
   unfold L6 DV at h1'
   obtain⟨a,us,rfl,hw,hd⟩:=h1'
   unfold DVs at hd
   obtain⟨u,us',rfl,hu,hus⟩:=hd
   unfold DV at hu
   subst hu
   refine⟨(a,t.1,us')::es,rfl,by simp[e2],fun e he=>?_,by simp[e4],fun i e t' h3 h4=>?_⟩
   · rcases yX.mp he with rfl | he
     · exact hw.sq
     · exact e3 e he
   · cases i with
     | zero=>simp at h3 h4;subst h3 h4;exact⟨h1,rfl⟩
     | succ i=>exact e5 i e t' (by simpa using h3) (by simpa using h4)
theorem UA {W:Addr->Prop}:∀{es:List (Addr×Str×List V)}{ts:List (Str×List PyData)},es.length=ts.length->(∀(i:Nat) e t,es[i]?=some e->ts[i]?=some t->DV K H W (L6 t) (.ref e.1))->DVs K H W (ts.map L6) (es.map fun e=>V.ref e.1)
 | [],[],_,_=>by simp only[a5Z];exact DVs.nil
 | [],_::_,h,_=>by simp at h
 | _::_,[],h,_=>by simp at h
 | e::es,t::ts,h,k=>by
   rw[zI,zI]
   exact DVs.cons (k 0 e t rfl rfl) (UA (by simpa using h) fun i e t h1 h2=>k (i+1) e t (by simpa using h1) (by simpa using h2))
theorem WA {α β:Type}:∀{as as':List α},as'.Perm as->∀{bs:List β},as.length=bs.length->∃bs':List β,bs'.Perm bs/\(as'.zip bs').Perm (as.zip bs)/\as'.length=bs'.length:=by
 intro as as' h
 induction h with
 | nil=>intro bs hl;exact⟨bs,.refl _,.refl _,hl⟩
 | cons x _ ih=>
   intro bs hl
   cases bs with
   | nil=>simp at hl
   | cons b bs=>
     obtain⟨bs',h1,h2,h3⟩:=ih (bs:=bs) (by simpa using hl)
     exact⟨b::bs',h1.cons b,by rw[a6W,a6W];exact h2.cons _,by simp[h3]⟩
 | swap x y l=>
   intro bs hl
   match bs,hl with
   | b1::b2::bs,hl=>exact⟨b2::b1::bs,.swap _ _ _,by simp only[a6W];exact .swap _ _ _,by simpa using hl⟩
 | trans p1 p2 ih1 ih2=>
   intro bs hl
   obtain⟨b2,h1,h2,h3⟩:=ih2 hl
   obtain⟨b3,g1,g2,g3⟩:=ih1 h3
   exact⟨b3,g1.trans h1,g2.trans h2,g3⟩
theorem NU {a:Addr}{ts:List (Str×List PyData)}{vs:List V}{QQ:VK}(oa:OA K H M) (hl:SqL K H a vs∨SqT K H a vs) (hd:DVs K H M.W (ts.map L6) vs) (nd:(ts.map (·.1)).Nodup) (h64:ts.length < 64)
   (k:∀(w:V) (H':Hp) (z:DS) (M':Own),OA K H' M'->SI K H' M' z w->Step K M M' H H'->(∃ts':List (Str×List PyData),ts'.Perm ts/\ts'.Pairwise (fun x y=>x.1.cps.toList < y.1.cps.toList)/\z = .d (.list (ts'.map L6))/\M'=M)->QQ w H'):L5 K [.ref a] H QQ:=by
 obtain⟨es,rfl,e2,e3,e4,e5⟩:=U9 hd
 refine .inr (.inl ⟨a,es,rfl,hl,e3,by rw[e2];exact nd,by rw[e4];exact h64,fun es' p hp hs hn=>?_⟩)
 obtain⟨ts',p1,p2,p3⟩:=WA hp e4
 have each:∀(i:Nat) e t,es'[i]?=some e->ts'[i]?=some t->DV K H M.W (L6 t) (.ref e.1)/\e.2.1=t.1:=fun i e t h1 h2=>by
   have hz:(e,t)∈es.zip ts:=p2.mem_iff.mp (yN (i:=i) (by rw[b6V];exact⟨h1,h2⟩))
   obtain⟨j,hj⟩:=List.getElem?_of_mem hz
   rw[b6V] at hj
   exact e5 j e t hj.1 hj.2
 have g:Grow K M.W M.W H (upd H p (.lst (es'.map fun e=>V.ref e.1))):=AR _ hn
 refine k _ _ (.d (.list (ts'.map L6))) M (oa.new hn) ?_ ⟨g⟩ ⟨ts',p1,?_,rfl,rfl⟩
 · unfold SI DV
   exact⟨p,_,rfl,.inl ⟨fun w=>w (oa.none hn),.inl AE⟩,(UA p3 fun i e t h1 h2=>(each i e t h1 h2).1).grow g⟩
 · rw[List.pairwise_iff_getElem] at hs ⊢
   intro i j hi hj hij
   have hi':i < es'.length:=by omega
   have hj':j < es'.length:=by omega
   have:=hs i j hi' hj' hij
   rw[(each i es'[i] ts'[i] (zV hi') (zV hi)).2,(each j es'[j] ts'[j] (zV hj') (zV hj)).2] at this
   exact this
theorem cX {ts:List (Str×List PyData)}(nd:(ts.map (·.1)).Nodup) (h64:ts.length < 64) (q:∀ts':List (Str×List PyData),ts'.Perm ts->ts'.Pairwise (fun x y=>x.1.cps.toList < y.1.cps.toList)->Q (.d (.list (ts'.map L6))) M):DR K (L5 K) [.d (.list (ts.map L6))] M Q:=fun H vs QQ oa s k=>by
 obtain⟨v,r,rfl,h1,h2⟩:=s
 cases h2
 unfold SI DV at h1
 obtain⟨a,vs,rfl,hl,hd⟩:=h1
 exact NU oa (.inl hl.sq) hd nd h64 fun w H' z M' o si st ⟨ts',p1,p2,e1,e2⟩=>by subst e1 e2;exact k w H' _ _ o si st (q ts' p1 p2)
theorem cY {xs:List DS}(h:DR K (RO K) xs M Q):DR K (L5 K) xs M Q:=fun H vs QQ oa s k=>.inl (h H vs QQ oa s k)
end
end DL
namespace DL
open PySem PySem.Spec L2
section
variable {X:Cx}{K:Frg}
theorem nL (h:X.K=K) (hc:X.calm=true):B6 X (.builtin "sorted") (L5 K):=h▸NS hc
end
section
variable {K:Frg}{M:Own}{ρ:List (Option DS)}{wi:TI}{g:TG}{H:Hp}
theorem NV {ts:List (Str×PyData)}{k:Str}{d:PyData}(h:k∉ts.map (·.1)):U5 ts k d=ts++[(k,d)]:=by
 unfold U5
 rw[if_neg]
 intro e
 obtain⟨t,ht,e⟩:=List.any_eq_true.mp e
 exact h (zL.mpr ⟨t,ht,by simpa using e⟩)
theorem cZ {fr:List (Option Nat)}{tt:TT}{tk tv:TE}{T:List Nat}{Q:DS->Own->Prop}(ho:HK g T) (hT:∀i∈T,∀j,fr[i]?≠some (some j))
   (h:DI K wi ρ M fun ds M1=>ds.length < sizeLine/\∃(c:PyData->Bool) (f:PyData->Str) (w:PyData->PyData),((ds.filter c).map f).Nodup /\
     (∀d∈ds,∀M',DG K g d (EB fr ρ) M' fun ρ2 M2=>M2=M'/\DT K tt ρ2 M2 fun b M3=>M3=M'/\b=c d/\(c d=true->DE K tk ρ2 M3 fun y M4=>y = .d (.str (f d))/\M4=M'/\DE K tv ρ2 M4 fun z M5=>z = .d (w d)/\M5=M')) /\
     ∀p,M1 p=none->Q (.loc p) (M1.put p (.d (AV ((ds.filter c).map fun d=>(f d,w d)))))) :
   DE K (NR fr wi g tt tk tv) ρ M Q:=fun σ H QQ R k=>
 h σ H _ R fun J ds H1 M1 o1 t1 wd ⟨hsz,c,f,w,nd,he,hq⟩=>by
   intro A hA
   obtain⟨oA,sA⟩:=K1 (kvs:=[]) (ks:=[]) o1 hA (by unfold DKV;rfl)
   have hM:=o1.none hA
   let acc:Nat->List (Str×PyData):=fun i=>((ds.take i).filter c).map fun d=>(f d,w d)
   refine⟨fun i m ys H2=>m=ds.length - i/\i<=ds.length/\H2 A=some (.dK ys)/\OA K H2 (M1.put A (.d (AV (acc i))))/\Step K M1 (M1.put A (.d (AV (acc i)))) H1 H2,⟨_,rfl,xT _,AE,oA,sA⟩,?_⟩
   rintro i m ys H2 ⟨rfl,hi,hys,oa,st⟩
   refine⟨hys,?_⟩
   by_cases hlt:i < ds.length
   · refine .inr ⟨wd.go i H2 _ hlt oa st,fun x H3 y=>?_⟩
     obtain⟨oa3,st3,d,e1,e2⟩:=wd.yld i H2 _ x H3 oa st hlt y
     have Rc:Rel K (M1.put A (.d (AV (acc i)))) (EB fr ρ) (L2.capt fr σ) H3:=((R.step o1 t1).step oa3 (st.trans st3)).capt
     have ts:(ds.take (i+1)).filter c=(ds.take i).filter c++(if c d then [d] else []):=take_succ_filter c ds i d e1
     refine ho _ _ _ _ (he d (yN e1) _ (L2.capt fr σ) H3 x _ Rc e2 fun ρ3 M3 σ3 H4 R3 st4 ⟨eM,b3⟩ hext=>⟨fun i' v' hv'=>?_,?_⟩)
     · obtain⟨j,f1,f2⟩:=CW hv'
       rw[hext i' fun hm=>hT i' hm j f1]
       exact hv'
     · subst eM
       refine b3 σ3 H4 _ R3 fun b H5 M5 o5 st5 ⟨eM5,eb,h5⟩=>?_
       subst eM5
       have sx:=((st.trans st3).trans st4).trans st5
       cases hb:c d with
       | false=>
         rw[hb] at eb
         subst eb
         rw[if_neg nft]
         obtain⟨ks,q1,q2⟩:=o5 A _ zU
         have ea:acc (i+1)=acc i:=by show(((ds.take (i+1)).filter c).map _)=_;rw[ts,hb];simp[acc]
         refine⟨ks,ds.length - (i+1),by omega,rfl,hlt,q1,?_,?_⟩
         · rw[ea];exact o5
         · rw[ea];exact sx
       | true=>
         rw[hb] at eb
         subst eb
         rw[if_pos rfl]
         refine h5 hb σ3 H5 _ (R3.step o5 st5) fun y H6 z M6 o6 s6 st6 ⟨ez,eM6,h6⟩=>?_
         subst ez eM6
         refine h6 σ3 H6 _ ((R3.step o5 st5).step o6 st6) fun y2 H7 z2 M7 o7 s7 st7 ⟨ez2,eM7⟩=>?_
         subst ez2 eM7
         obtain⟨ks,q1,q2⟩:=o7 A _ zU
         obtain⟨w1,w2⟩:=EC o7 zU (XS (k:=f d) q2 s7)
         have hnew:f d∉(acc i).map (·.1):=by
           intro hm
           have:((ds.take (i+1)).filter c).map f=(acc i).map (·.1)++[f d]:=by rw[ts,hb];simp[acc]
           have nd2:(((ds.take (i+1)).filter c).map f).Nodup:=by
             refine nd.sublist ?_
             exact((List.take_sublist _ _).filter _).map _
           rw[this,List.nodup_append] at nd2
           exact nd2.2.2 _ hm _ (by simp) rfl
         have ea:acc (i+1)=U5 (acc i) (f d) (w d):=by
           rw[NV hnew]
           show(((ds.take (i+1)).filter c).map _)=_
           rw[ts,hb]
           simp[acc]
         have hlen:ks.length < sizeLine:=by
           rw[IL q2]
           unfold AV
           rw[zX]
           refine zQ ?_ hsz
           show(((ds.take i).filter c).map _).length<=_
           rw[zX]
           exact zN (yJ _ _) (by rw[a2X];omega)
         rw[yI] at w1 w2
         refine⟨ks,a0V (f d),BC s6,q1,hlen,ds.length - (i+1),by omega,rfl,hlt,AE,?_,?_⟩
         · rw[ea];exact w1
         · rw[ea];exact((sx.trans st6).trans st7).trans w2
   · have e:i=ds.length:=by omega
     subst e
     refine .inl ⟨wd.stop H2 _ oa st,k _ H2 (.loc A) _ oa rfl (t1.trans st) ?_⟩
     have:=hq A hM
     have ea:acc ds.length=(ds.filter c).map fun d=>(f d,w d):=by show(((ds.take ds.length).filter c).map _)=_;rw[a3X]
     rw[ea]
     exact this
theorem dA {D:EndsD}{i j:Nat}{ta:TA}(h:DA K ta ρ M fun xs M1=>∃x y,xs=[x,y]/\D.nx ((ρ.set i (some x)).set j (some y)) M1):DSt K (oP i j ta) ρ M D:=fun σ H E R k1 _ _ _=>
 h σ H _ R fun vs H1 xs M1 o1 s1 t1 h1=>by
   obtain⟨x,y,rfl,q⟩:=h1
   obtain⟨v,r,rfl,sx,s2⟩:=s1
   obtain⟨w,r',rfl,sy,s3⟩:=s2
   cases s3
   exact⟨v,w,rfl,k1 _ M1 _ H1 (((R.step o1 t1).set sx i).set sy j) t1 q⟩
end
end DL
namespace DL
open PySem PySem.Spec L2
inductive Deed where
 | put (x:Str) (p k:Int) | take (x:Str) | move (x:Str) (p:Int) | count (x:Str) (k:Int) | name (x y:Str) | split (x y:Str) (p k:Int) | join (x y:Str)
def Deed.d:Deed->PyData
 | .put x p k=>.tuple [.str (a0Q "put"),.str x,.int p,.int k]
 | .take x=>.tuple [.str (a0Q "take"),.str x]
 | .move x p=>.tuple [.str (a0Q "move"),.str x,.int p]
 | .count x k=>.tuple [.str (a0Q "count"),.str x,.int k]
 | .name x y=>.tuple [.str (a0Q "name"),.str x,.str y]
 | .split x y p k=>.tuple [.str (a0Q "split"),.str x,.str y,.int p,.int k]
 | .join x y=>.tuple [.str (a0Q "join"),.str x,.str y]
def Deed.names:Deed->List Str
 | .put x _ _=>[x] | .take x=>[x] | .move x _=>[x] | .count x _=>[x] | .name x y=>[x,y] | .split x y _ _=>[x,y] | .join x y=>[x,y]
def Deed.ok (D:Deed):Prop:=∀x∈D.names,AS x
def LS:List (Str×Str):=[("put", "npk"),("take", "n"),("move", "np"),("count", "nk"),("name", "nn"),("split", "nnpk"),("join", "nn")]
def kB:PyData->PyData | .str z=>Z3 (LS.lookup z) | _=>.none
def iQ (z:Str):Bool:=z == "name" || z == "split" || z == "join"
def NW:PyData->PyData | .tuple (.str w::r)=>.tuple (r.take (if iQ w then 2 else 1)) | d=>d
theorem dB {w f:Str}(h:LS.lookup w=some f):(w = "put" /\ f = "npk")∨(w = "take" /\ f = "n")∨(w = "move" /\ f = "np")∨(w = "count" /\ f = "nk")∨(w = "name" /\ f = "nn")∨(w = "split" /\ f = "nnpk")∨(w = "join" /\ f = "nn"):=by
 unfold LS at h
 simp only[a2K,List.lookup_nil] at h
 split at h
 · rename_i e;exact .inl ⟨eq_of_beq e,by injection h with h;exact h.symm⟩
 split at h
 · rename_i e;exact .inr (.inl ⟨eq_of_beq e,by injection h with h;exact h.symm⟩)
 split at h
 · rename_i e;exact .inr (.inr (.inl ⟨eq_of_beq e,by injection h with h;exact h.symm⟩))
 split at h
 · rename_i e;exact .inr (.inr (.inr (.inl ⟨eq_of_beq e,by injection h with h;exact h.symm⟩)))
 split at h
 · rename_i e;exact .inr (.inr (.inr (.inr (.inl ⟨eq_of_beq e,by injection h with h;exact h.symm⟩))))
 split at h
 · rename_i e;exact .inr (.inr (.inr (.inr (.inr (.inl ⟨eq_of_beq e,by injection h with h;exact h.symm⟩)))))
 split at h
 · rename_i e;exact .inr (.inr (.inr (.inr (.inr (.inr ⟨eq_of_beq e,by injection h with h;exact h.symm⟩)))))
 cases h
theorem WB {w f:Str}(h:LS.lookup w=some f):f.cps.all (· < 128)=true/\f.cps.size<=4/\Txt.startswith f (a0Q "nn")=iQ w/\(iQ w=true->2<=f.cps.size/\f.cps[0]?=some 110/\f.cps[1]?=some 110)/\1<=f.cps.size:=by
 rcases dB h with ⟨rfl,rfl⟩ | ⟨rfl,rfl⟩ | ⟨rfl,rfl⟩ | ⟨rfl,rfl⟩ | ⟨rfl,rfl⟩ | ⟨rfl,rfl⟩ | ⟨rfl,rfl⟩ <;> decide +kernel
def dC (d:PyData):Prop:=∃w f r,d = .tuple (.str w::r)/\LS.lookup w=some f
theorem NX (D:Deed):dC D.d:=by cases D <;> exact⟨_,_,_,rfl,rfl⟩
theorem K6 (D:Deed):NW D.d = .tuple (D.names.map .str):=by cases D <;> rfl
def B8:PyData->Str->Nat
 | .tuple (.str w::.str x::_),n=>if w == "move" then 0 else if (w == "count" || w == "split" || w == "join")&&x==n then 1 else 2
 | _,_=>2
def NY:Nat->Str | 0 => "move" | 1 => "add" | _ => "more"
def ET (u v:Nat):Bool:=(u==1||v==1)&&u != 2&&v != 2
def nmS:PyData->List Str | .tuple ds=>ds.map BX | _=>[]
def NZ (d:PyData):List Str:=nmS (NW d)
theorem FL (D:Deed):NZ D.d=D.names:=by
 unfold NZ
 rw[K6]
 show(D.names.map a0K).map BX=_
 rw[zD]
 exact a9X _
def C0 (a b:PyData):Bool:=(NZ a).any fun n=>decide (n∈NZ b)&&!ET (B8 a n) (B8 b n)
theorem O0 (u v:Nat):ET u v=ET v u:=by
 unfold ET
 cases (u==1) <;> cases (v==1) <;> cases (u != 2) <;> cases (v != 2) <;> rfl
theorem UB (a b:PyData):C0 a b=C0 b a:=by
 rw[a2W]
 unfold C0
 simp only[a8Q,a1Z,decide_eq_true_eq]
 constructor
 · rintro⟨n,h1,h2,h3⟩;exact⟨n,h2,h1,by rw[O0];exact h3⟩
 · rintro⟨n,h1,h2,h3⟩;exact⟨n,h2,h1,by rw[O0];exact h3⟩
theorem E7 (a:PyData) (n:Str):B8 a n=0∨B8 a n=1∨B8 a n=2:=by
 unfold B8
 split
 · split
   · exact .inl rfl
   · split
     · exact .inr (.inl rfl)
     · exact .inr (.inr rfl)
 · exact .inr (.inr rfl)
def F9 (d:PyData):Prop:=∃D:Deed,d=D.d/\D.ok
def L7:FSp:=fn1 (fun _=>True) kB
def GF:FSp:=fn1 dC NW
def O1:FSp:=fn2 (fun a b=>F9 a/\∃n,b = .str n/\AS n) fun a b=>.str (NY (B8 a (BX b)))
def fn3 (pre:PyData->PyData->PyData->Prop) (f:PyData->PyData->PyData->PyData):FSp:=⟨fun xs _=>∃a b c,xs=[.d a,.d b,.d c]/\pre a b c,fun xs M y M'=>∀a b c,xs=[.d a,.d b,.d c]->y = .d (f a b c)/\M'=M⟩
theorem dD {pre:PyData->PyData->PyData->Prop}{f:PyData->PyData->PyData->PyData}{a b c:PyData}{M:Own}{Q:DS->Own->Prop}(p:pre a b c) (q:Q (.d (f a b c)) M):[DS.d a,.d b,.d c].length=3/\(fn3 pre f).pre [.d a,.d b,.d c] M/\∀x M',(fn3 pre f).post [.d a,.d b,.d c] M x M'->Q x M':=
 ⟨rfl,⟨a,b,c,rfl,p⟩,fun x M' h=>by obtain⟨rfl,rfl⟩:=h a b c rfl;exact q⟩
def HS:FSp:=fn3 (fun a b c=>F9 a/\F9 b/\∃n,c = .str n/\AS n) fun a b c=>.bool (ET (B8 a (BX c)) (B8 b (BX c)))
def RY:FSp:=fn2 (fun a b=>F9 a/\F9 b) fun a b=>.bool (C0 a b)
def BJ (o:MO):Prop:=∃v:Int,o = .l [.int v]
def BQ:FSp:=⟨fun xs M=>∃c:Int,xs=[.d (.int c)]/\xJ c<=2 ^ 21,fun xs M y M'=>M'=M/\∃v:Int,y = .d (.int v)⟩
def B7:FSp:=⟨fun xs M=>∃p size o,xs=[.loc p,.d (.int size)]/\M p=some o/\BJ o/\0 < size/\size < 1073741824,
 fun xs M y M'=>∀p size,xs=[.loc p,.d (.int size)]->∃v o,y = .d (.int v)/\0<=v/\v < size/\BJ o/\M'=M.put p o⟩
theorem AX {p:Addr}{size:Int}{o:MO}{M:Own}{Q:DS->Own->Prop}(m:M p=some o) (ho:BJ o) (h0:0 < size) (h1:size < 1073741824) (q:∀v o',0<=v->v < size->BJ o'->Q (.d (.int v)) (M.put p o')) :
   [DS.loc p,.d (.int size)].length=2/\B7.pre [.loc p,.d (.int size)] M/\∀x M',B7.post [.loc p,.d (.int size)] M x M'->Q x M':=
 ⟨rfl,⟨p,size,o,rfl,m,ho,h0,h1⟩,fun x M' h=>by obtain⟨v,o',rfl,h2,h3,h4,rfl⟩:=h p size rfl;exact q v o' h2 h3 h4⟩
def MI:List Str:=["take", "name", "join"]
theorem L8 {z:Str}(h:z∈MI):z.cps.toList=[116,97,107,101]∨z.cps.toList=[110,97,109,101]∨z.cps.toList=[106,111,105,110]:=by
 simp only[MI,yX,xX,or_false] at h
 rcases h with rfl | rfl | rfl
 · exact .inl (by decide +kernel)
 · exact .inr (.inl (by decide +kernel))
 · exact .inr (.inr (by decide +kernel))
def nxL (a:Nat):Nat:=if a=122 then 97 else a+1
def Run (l:List Nat):Prop:=∀i a b,l[i]?=some a->l[i+1]?=some b->b=nxL a
theorem Run.drop {l:List Nat}(h:Run l) (n:Nat):Run (l.drop n):=fun i a b h1 h2=>by
 rw[List.getElem?_drop] at h1 h2
 exact h (n+i) a b h1 (by rw[← Nat.add_assoc] at h2;exact h2)
theorem Run.take {l:List Nat}(h:Run l) (n:Nat):Run (l.take n):=fun i a b h1 h2=>by
 rw[List.getElem?_take] at h1 h2
 split at h1
 · split at h2
   · exact h i a b h1 h2
   · cases h2
 · cases h1
theorem iR {z:Str}{n c:Nat}(h:z.cps.toList=a3Z n c):z∉MI:=fun hb=>by
 have key:∀a∈z.cps.toList,a=c:=fun a ha=>by rw[h] at ha;exact b1V ha
 rcases L8 hb with e | e | e
 · rw[e] at key
   have h1:=key 116 (by simp);have h2:=key 97 (by simp);omega
 · rw[e] at key
   have h1:=key 110 (by simp);have h2:=key 97 (by simp);omega
 · rw[e] at key
   have h1:=key 106 (by simp);have h2:=key 111 (by simp);omega
theorem iS {z:Str}{c:Nat}{m:List Nat}(h:z.cps.toList=c::m) (hr:Run m):z∉MI:=fun hb=>by
 rcases L8 hb with e | e | e
 · rw[e] at h;injection h with _ h;subst h
   exact absurd (hr 0 97 107 rfl rfl) (by decide)
 · rw[e] at h;injection h with _ h;subst h
   exact absurd (hr 0 97 109 rfl rfl) (by decide)
 · rw[e] at h;injection h with _ h;subst h
   exact absurd (hr 0 111 105 rfl rfl) (by decide)
theorem iT {z:Str}{c:Nat}{m:List Nat}(h:z.cps.toList=m++[c]) (hr:Run m):z∉MI:=fun hb=>by
 have hm:m=z.cps.toList.dropLast:=by rw[h];simp
 rcases L8 hb with e | e | e
 · rw[e] at hm;subst hm
   exact absurd (hr 0 116 97 rfl rfl) (by decide)
 · rw[e] at hm;subst hm
   exact absurd (hr 0 110 97 rfl rfl) (by decide)
 · rw[e] at hm;subst hm
   exact absurd (hr 0 106 111 rfl rfl) (by decide)
def pT (l:List Nat):Bool:=(a0J l.length).all fun i=>match l[i]?,l[i+1]? with | some a,some b=>b==nxL a | _,_=>true
theorem nM {l:List Nat}(h:pT l=true):Run l:=fun i a b h1 h2=>by
 have hi:i < l.length:=(yT.mp h1).1
 have:=List.all_eq_true.mp h i (List.mem_range.mpr hi)
 rw[h1,h2] at this
 exact eq_of_beq this
theorem dE:∀t,t < 26->pT ((a0Q "abcdefghijklmnopqrstuvwxyz").cps.toList.drop t++(a0Q "abcdefghijklmnopqrstuvwxyz").cps.toList.take t)=true:=by decide +kernel
def CG:FSp:=⟨fun xs M=>∃p n o,xs=[.loc p,.d (.int n)]/\M p=some o/\BJ o/\0<=n/\n<=26,
 fun xs M y M'=>∀p n,xs=[.loc p,.d (.int n)]->∃(ys:List Str) (o:MO),y = .d (.list (ys.map .str))/\(ys.length:Int)=n/\(∀z∈ys,AS z)/\(∀z∈ys,z∉MI)/\ys.Nodup/\BJ o/\M'=M.put p o⟩
theorem WC {p:Addr}{n:Int}{o:MO}{M:Own}{Q:DS->Own->Prop}(m:M p=some o) (ho:BJ o) (h0:0<=n) (h1:n<=26) (q:∀(ys:List Str) o',(ys.length:Int)=n->(∀z∈ys,AS z)->(∀z∈ys,z∉MI)->ys.Nodup->BJ o'->Q (.d (.list (ys.map .str))) (M.put p o')) :
   [DS.loc p,.d (.int n)].length=2/\CG.pre [.loc p,.d (.int n)] M/\∀x M',CG.post [.loc p,.d (.int n)] M x M'->Q x M':=
 ⟨rfl,⟨p,n,o,rfl,m,ho,h0,h1⟩,fun x M' h=>by obtain⟨v,o',rfl,h2,h3,h4,h5,h6,rfl⟩:=h p n rfl;exact q v o' h2 h3 h4 h5 h6⟩
theorem JO {c:Int}{M:Own}{Q:DS->Own->Prop}(h:xJ c<=2 ^ 21) (q:∀v:Int,Q (.d (.int v)) M):[DS.d (.int c)].length=1/\BQ.pre [.d (.int c)] M/\∀x M',BQ.post [.d (.int c)] M x M'->Q x M':=
 ⟨rfl,⟨c,rfl,h⟩,fun x M' h=>by obtain⟨rfl,v,rfl⟩:=h;exact q v⟩
theorem AM {z:Str}(h:AS z):zH (.str z)=true:=BP (ED h) (by simp[a3J])
def Deed.word:Deed->Str
 | .put .. => "put" | .take .. => "take" | .move .. => "move" | .count .. => "count" | .name .. => "name" | .split .. => "split" | .join .. => "join"
def Deed.fst:Deed->Str
 | .put x _ _=>x | .take x=>x | .move x _=>x | .count x _=>x | .name x _=>x | .split x _ _ _=>x | .join x _=>x
def Deed.rest:Deed->List PyData
 | .put _ p k=>[.int p,.int k] | .take _=>[] | .move _ p=>[.int p] | .count _ k=>[.int k] | .name _ y=>[.str y] | .split _ y p k=>[.str y,.int p,.int k] | .join _ y=>[.str y]
theorem Deed.d_eq (D:Deed):D.d = .tuple (.str D.word::.str D.fst::D.rest):=by cases D <;> rfl
theorem Deed.word_ok (D:Deed):zH (.str D.word)=true:=by cases D <;> (simp only[Deed.word];decide +kernel)
theorem Deed.fst_ok {D:Deed}(h:D.ok):AS D.fst:=by cases D <;> exact h _ a2V
theorem BF (a b:Str):a0Z (.str a) (.str b)=(a==b):=by simp[a0Z]
theorem qW (w a b c:Str):decide (w∈[a,b,c])=(w==a||w==b||w==c):=by
 rw[a2W];simp[or_assoc]
theorem nN (u v:Nat) (hu:u=0∨u=1∨u=2) (hv:v=0∨v=1∨v=2):(decide (a0Q "add" ∈ [NY u,NY v])&&!decide (a0Q "more" ∈ [NY u,NY v]))=ET u v:=by
 rcases hu with rfl | rfl | rfl <;> rcases hv with rfl | rfl | rfl <;> decide +kernel
theorem pU {a b:Str}{ss:List Str}(h:ss.Perm [a,b]):ss=[a,b]∨ss=[b,a]:=by
 have hl:=h.length_eq
 match ss,hl with
 | [x,y],_=>
   have hx:x∈[a,b]:=h.mem_iff.mp (by simp)
   rcases yX.mp hx with rfl | hx
   · have:=(List.perm_cons x).mp h
     rw[List.perm_singleton] at this
     left;rw[this]
   · have e:x=b:=by simpa using hx
     subst e
     have h2:[x,y].Perm [x,a]:=h.trans (List.Perm.swap _ _ _)
     have:=(List.perm_cons x).mp h2
     rw[List.perm_singleton] at this
     right;rw[this]
theorem LT {ss:List Str}(h:∀s∈ss,b9Z s=true):zH (.list (ss.map .str))=true:=by
 refine BP (GB fun d hd=>?_) ?_
 · obtain⟨y,h1,rfl⟩:=zL.mp hd
   exact h y h1
 · have:a1Q (ss.map a0K)<=0:=L4 fun d hd=>by
     obtain⟨y,h1,rfl⟩:=zL.mp hd
     exact zR 0
   simp only[a3J];omega
theorem N1 {ys:List Str}{v:Int}(h0:0<=v) (h1:v < ys.length):∃y,atI (ys.map a0K) v=some (.str y)/\y∈ys:=by
 obtain⟨n,rfl⟩:∃n:Nat,v=(n:Int):=⟨v.toNat,by omega⟩
 have hn:n < ys.length:=by omega
 exact⟨ys[n],AD (by rw[zF,zV hn];rfl),b1X hn⟩
def nmA (R:Str):PyData->PyData
 | .int i=>match atI R.cps.toList (i/8) with | some c=>.str (MH ⟨#[c]⟩ (1+i % 8)) | none=>.none
 | d=>d
def nmB (R t:Str):PyData->PyData
 | .int i=>match atI R.cps.toList i with | some c=>.str (⟨#[c]⟩++t) | none=>.none
 | d=>d
def nmC (R t:Str):PyData->PyData
 | .int i=>match atI R.cps.toList i with | some c=>.str (t++⟨#[c]⟩) | none=>.none
 | d=>d
theorem RZ {R:Str}{i:Int}{c:Nat}(h:atI R.cps.toList (i/8)=some c):nmA R (.int i) = .str (MH ⟨#[c]⟩ (1+i % 8)):=by simp only[nmA,h]
theorem S0 {R t:Str}{i:Int}{c:Nat}(h:atI R.cps.toList i=some c):nmB R t (.int i) = .str (⟨#[c]⟩++t):=by simp only[nmB,h]
theorem S3 {R t:Str}{i:Int}{c:Nat}(h:atI R.cps.toList i=some c):nmC R t (.int i) = .str (t++⟨#[c]⟩):=by simp only[nmC,h]
def GG (D E:Deed) (n:Str):Bool:=decide (n∈E.names)&&!ET (B8 D.d n) (B8 E.d n)
theorem UC (D E:Deed):C0 D.d E.d=D.names.any (GG D E):=by unfold C0;rw[FL,FL];rfl
def UD:FSp:=⟨fun xs M=>∃ns:List Int,xs=[.d (.list (ns.map .int))]/\ns.length<=63/\∀i∈ns,xJ i<=2 ^ 20,fun xs M y M'=>y = .d (.bool true)⟩
theorem O2 {R:List Nat}(h:R.Nodup) {i j:Nat}{c:Nat}(h1:atI R (i:Int)=some c) (h2:atI R (j:Int)=some c) (hi:i < R.length) (hj:j < R.length):i=j:=by
 have e1:atI R (i:Int)=some R[i]:=AD (zV hi)
 have e2:atI R (j:Int)=some R[j]:=AD (zV hj)
 rw[e1] at h1
 rw[e2] at h2
 have:R[i]=R[j]:=by rw[Option.some.inj h1,Option.some.inj h2]
 exact(List.getElem_inj h).mp this
theorem nodup_range {N:Nat}{f:Nat->Str}(h:∀i j,i < N->j < N->f i=f j->i=j):((a0J N).map f).Nodup:=by
 unfold List.Nodup
 rw[a6X]
 exact(List.nodup_range (n:=N)).imp_of_mem fun {a b} ha hb hab e=>hab (h a b (List.mem_range.mp ha) (List.mem_range.mp hb) e)
theorem ZF (t:Nat):((a0Q "abcdefghijklmnopqrstuvwxyz").cps.toList.drop t++(a0Q "abcdefghijklmnopqrstuvwxyz").cps.toList.take t).Nodup:=by
 have h:((a0Q "abcdefghijklmnopqrstuvwxyz").cps.toList.drop t++(a0Q "abcdefghijklmnopqrstuvwxyz").cps.toList.take t).Perm (a0Q "abcdefghijklmnopqrstuvwxyz").cps.toList:=by
   refine List.perm_append_comm.trans ?_
   rw[a9Q]
 exact h.nodup_iff.mpr VY
theorem dF {c d:Nat}{t:Str}(h:(⟨#[c]⟩:Str)++t=⟨#[d]⟩++t):c=d:=by
 have:=congrArg (fun s:Str=>s.cps.toList) h
 simp only[AQ] at this
 have:=List.append_cancel_right this
 simpa using this
theorem dG {c d:Nat}{t:Str}(h:t++(⟨#[c]⟩:Str)=t++⟨#[d]⟩):c=d:=by
 have:=congrArg (fun s:Str=>s.cps.toList) h
 simp only[AQ] at this
 have:=List.append_cancel_left this
 simpa using this
theorem iU {c d:Nat}{m n:Int}(hm:1<=m) (hn:1<=n) (h:MH ⟨#[c]⟩ m=MH ⟨#[d]⟩ n):c=d/\m=n:=by
 have:=congrArg (fun s:Str=>s.cps.toList) h
 simp only[RW hm,RW hn] at this
 have hl:=congrArg b2W this
 rw[a9Z,a9Z] at hl
 have hmn:m=n:=by omega
 refine⟨?_,hmn⟩
 subst hmn
 have hc:c∈a3Z m.toNat d:=by rw[← this];exact List.mem_replicate.mpr ⟨by omega,rfl⟩
 exact b1V hc
end DL
namespace DL
open PySem PySem.Spec L2
def HU:PyData->PyData
 | .tuple (.str w::r)=>if w == "put" then r.getD 0 .none else if w == "name" || w == "split" then r.getD 1 .none else .none
 | _=>.none
def IM:FSp:=fn1 F9 HU
def UE (d:PyData):List Str:=(NZ d).filter fun n=>!a0Z (.str n) (HU d)
def GH:FSp:=fn1 F9 fun d=>.tuple ((UE d).map .str)
def Deed.isPut:Deed->Bool | .put ..=>true | _=>false
def Deed.isNS:Deed->Bool | .name ..=>true | .split ..=>true | _=>false
theorem dH (D:Deed):(D.word==a0Q "put")=D.isPut:=by cases D <;> (simp only[Deed.word,Deed.isPut];decide +kernel)
theorem qX (w a b:Str):decide (w∈[a,b])=(w==a||w==b):=by rw[a2W];simp
theorem iV (D:Deed):(D.word==a0Q "name" || D.word==a0Q "split")=D.isNS:=by cases D <;> (simp only[Deed.word,Deed.isNS];decide +kernel)
theorem iW {D:Deed}(h:D.ok):zH (HU D.d)=true:=by
 cases D with
 | put x p k=>exact AM (h x (by simp[Deed.names]))
 | name x y=>exact AM (h y (by simp[Deed.names]))
 | split x y p k=>exact AM (h y (by simp[Deed.names]))
 | _=>rfl
end DL
namespace DL
open PySem PySem.Spec L2
def Deed.made:Deed->Option Str | .put x _ _=>some x | .name _ y=>some y | .split _ y _ _=>some y | _=>none
def Deed.apart:Deed->Prop | .name x y=>x≠y | .split x y _ _=>x≠y | .join x y=>x≠y | _=>True
def Deed.placed:Deed->Prop | .put _ p _=>0<=p/\p<=999 | .move _ p=>0<=p/\p<=999 | .split _ _ p _=>0<=p/\p<=999 | _=>True
def Deed.real (D:Deed):Prop:=D.ok/\D.apart/\D.placed
theorem EU {D:Deed}(h:D.real):F9 D.d:=⟨D,rfl,h.1⟩
def FA (ns:List Str) (D:Deed):Option Str:=D.names.find? fun n=>decide (n∈ns)==decide (D.made=some n)
theorem UF {ns:List Str}{D:Deed}(h:FA ns D=none):∀n∈D.names,(n∈ns)↔¬D.made=some n:=fun n hn=>by
 have:=List.find?_eq_none.mp h n hn
 by_cases h1:n∈ns <;> by_cases h2:D.made=some n <;> simp_all
theorem S4 (D:Deed):HU D.d=match D.made with | some x=>.str x | none=>.none:=by cases D <;> rfl
theorem EF {D E:Deed}(h:D.d=E.d):D=E:=by
 cases D <;> cases E <;> simp only[Deed.d,PyData.tuple.injEq,List.cons.injEq,PyData.str.injEq,PyData.int.injEq,and_true,true_and,reduceCtorEq,and_false,false_and,List.nil_eq] at h <;>
   first
   | (obtain⟨_,h⟩:=h;first | (obtain⟨rfl,rfl,rfl,rfl⟩:=h;rfl) | (obtain⟨rfl,rfl,rfl⟩:=h;rfl) | (obtain⟨rfl,rfl⟩:=h;rfl) | (subst h;rfl))
   | (obtain⟨rfl,rfl,rfl,rfl⟩:=h;rfl) | (obtain⟨rfl,rfl,rfl⟩:=h;rfl) | (obtain⟨rfl,rfl⟩:=h;rfl) | (subst h;rfl)
   | exact absurd h.1 (by decide +kernel)
end DL
namespace DL
open PySem PySem.Spec L2
theorem S5 (ds:List PyData):(ds.filter fun _=>true)=ds:=List.filter_eq_self.mpr (by simp)
def DU (ns:List Str):Deed->List Str
 | .put x _ _=>ns++[x]
 | .take x=>ns.filter fun n=>decide (n≠x)
 | .move _ _=>ns
 | .count _ _=>ns
 | .name x y=>(ns.filter fun n=>decide (n≠x))++[y]
 | .split _ y _ _=>ns++[y]
 | .join _ y=>ns.filter fun n=>decide (n≠y)
theorem pV {ns:List Str}{D:Deed}(ha:FA ns D=none) {n:Str}(hn:n∈D.names) (hm:D.made≠some n):n∈ns:=(UF ha n hn).mpr hm
end DL
namespace DL
open PySem PySem.Spec L2
def kC (w:List Th):Prop:=Ris (w.map (·.1))/\∀t∈w,AS t.1/\0<=t.2.1/\t.2.1<=999
theorem DC {ns:List Str}{D:Deed}(h:∀n∈D.names,(n∈ns)↔¬D.made=some n):FA ns D=none:=by
 unfold FA
 rw[List.find?_eq_none]
 intro n hn
 have:=h n hn
 by_cases h1:n∈ns <;> by_cases h2:D.made=some n <;> simp_all
end DL
namespace L2
open PySem PySem.Spec PyProof.Rows
theorem LU (ns:List Int):∀k,k<=ns.length->preSum (fun i=>ns.getD i 0) k=(ns.take k).sum
 | 0,_=>by simp[preSum]
 | k+1,h=>by
   show preSum _ k+ns.getD k 0=_
   have e:ns.take (k+1)=ns.take k++[ns.getD k 0]:=by
     rw[a4Z,yU,zV (by omega)];rfl
   rw[LU ns k (by omega),e,List.sum_append]
   simp
def nO (K:Frg):List V->Hp->VK->Prop:=fun xs H Q=>∃(p:Addr) (ns:List Int),xs=[.ref p]/\SqL K H p (ns.map V.int)/\Q (.int ns.sum) H
theorem O3:∀{ns:List Int}{its:List Value},Vals (ns.map V.int) its->its.length=ns.length/\∀(i:Nat) v,its[i]?=some v->∃t,v=b7Q (ns.getD i 0) t
 | [],_,.nil=>⟨rfl,fun i v h=>by simp at h⟩
 | n::ns,_,.cons r t=>by
   obtain⟨h1,h2⟩:=O3 t
   refine⟨by simp[h1],fun i v h=>?_⟩
   cases i with
   | zero=>simp at h;subst h;exact r
   | succ i=>exact h2 i v (by simpa using h)
theorem dI {X:Cx}(hc:X.calm=true):B6 X (.builtin "sum") (nO X.K):=by
 intro pins s σ H xs us Q I r h
 obtain⟨p,ns,rfl,hp,q⟩:=h
 obtain⟨u,rfl,ru⟩:=DZ r
 cases ru
 obtain⟨its,rv,pl,_⟩:=I.list hp
 obtain⟨hl,hv⟩:=O3 rv
 have hlist:=pl.isList
 have hlt:p < s.heap.objs.size:=by obtain⟨_,e,_⟩:=hlist;exact zM e
 refine call_sum_walkAnyS ?_
 refine wpAny_pyIter_list hlist ⟨s.heap.objs.size,_,_,_,its.toArray.size,fun i v=>its.toArray[i]?=some v,_,fun i=>ns.getD i 0,rfl,(Walks.list (A:=X.A.in1) (I.ok.hd hc) _ _ (zC hlt) its.toArray).toS,⟨⟨_,yZ _ rfl,rfl,rfl⟩,hlist.push _⟩,fun b hb=>?_,fun i v e=>hv i v (by simpa using e),fun s' t' hm=>?_⟩
 · show b < (s.heap.push _).objs.size
   rw[b0W]
   rcases yX.mp hb with e | hb
   · rw[e];exact Nat.lt_succ_self _
   · rw[List.mem_singleton.mp hb];exact b8J hlt
 · have hk:∀b o,s.heap.get? b=some o->s'.heap.get? b=some o:=fun b o e=>
     hm.heap b o (fun hI=>absurd (zM e) (by rw[List.mem_singleton.mp hI];exact yF _)) (zW _ e)
   rw[Moved.eq_with hm]
   have es:preSum (fun i=>ns.getD i 0) its.toArray.size=ns.sum:=by
     rw[zJ,hl,LU ns _ (zR _),a3X]
   rw[es]
   exact⟨.int ns.sum,H,I.kept (h':=s'.heap) (t':=s'.toks) hk,⟨t',rfl⟩,q⟩
end L2
namespace DL
open PySem PySem.Spec L2
theorem qY {X:Cx}{K:Frg}(h:X.K=K) (hc:X.calm=true):B6 X (.builtin "sum") (nO K):=h▸dI hc
section
variable {K:Frg}{M:Own}{Q:DS->Own->Prop}{H:Hp}
theorem UG {W:Addr->Prop}:∀{ns:List Int}{vs:List V},DVs K H W (ns.map a4W) vs->vs=ns.map V.int
 | [],vs,h=>by unfold DVs at h;subst h;rfl
 | n::ns,vs,h=>by
   rw[zI] at h
   unfold DVs at h
   obtain⟨v,r,rfl,h1,h2⟩:=h
   unfold DV at h1
   rw[h1,UG h2];rfl
theorem dJ {ns:List Int}(q:Q (.d (.int ns.sum)) M):DR K (nO K) [.d (.list (ns.map .int))] M Q:=fun H vs QQ oa s k=>by
 obtain⟨v,r,rfl,h1,h2⟩:=s
 cases h2
 unfold SI DV at h1
 obtain⟨a,vs,rfl,hl,hd⟩:=h1
 have e:=UG hd
 subst e
 exact⟨a,ns,rfl,hl.sq,k _ H (.d (.int ns.sum)) M oa C7 Step.refl q⟩
end
end DL
namespace DL
open PySem PySem.Spec L2
def C6 (sp:List Str) (D:Deed):List Str:=match D.made with | some _=>sp.drop 1 | none=>sp
theorem L9 {so sp:List Str}{D:Deed}(h:∀n,D.made=some n->sp.head?=some n):(DU so D++C6 sp D).Sublist (so++sp):=by
 have hd:∀n,D.made=some n->sp=n::sp.drop 1:=fun n e=>by
   have:=h n e
   cases sp with
   | nil=>simp at this
   | cons a r=>simp at this;subst this;rfl
 cases D with
 | put x p k=>
   show((so++[x])++sp.drop 1).Sublist _
   conv=>rhs;rw[hd x rfl]
   rw[a7X]
   exact a5K _
 | take x=>exact(a7K).append (a5K _)
 | move x p=>exact a5K _
 | count x k=>exact a5K _
 | name x y=>
   show(((so.filter fun n=>decide (n≠x))++[y])++sp.drop 1).Sublist _
   conv=>rhs;rw[hd y rfl]
   rw[a7X]
   exact List.filter_sublist.append (a5K _)
 | split x y p k=>
   show((so++[y])++sp.drop 1).Sublist _
   conv=>rhs;rw[hd y rfl]
   rw[a7X]
   exact a5K _
 | join x y=>exact(a7K).append (a5K _)
def namesOK (ys:List Str):Prop:=(∀z∈ys,AS z)/\ys.Nodup/\ys.length<=26
theorem namesOK.sub {as bs:List Str}(h:namesOK bs) (s:as.Sublist bs):namesOK as:=⟨fun z hz=>h.1 z (s.subset hz),h.2.1.sublist s,zN s.length_le h.2.2⟩
def AY (ys:List Str):PyData:=.list (ys.map .str)
def DD:FSp:=⟨fun xs M=>∃(p:Addr) (o:MO) (so sp:List Str),xs=[.loc p,.d (AY so),.d (AY sp)]/\M p=some o/\BJ o/\namesOK (so++sp)/\(so≠[]∨sp≠[]),
 fun xs M y M'=>∀(p:Addr) (so sp:List Str),xs=[.loc p,.d (AY so),.d (AY sp)]->∃(D:Deed) (o:MO),y = .d D.d/\D.real/\FA so D=none/\(∀n,D.made=some n->sp.head?=some n)/\BJ o/\M'=M.put p o⟩
theorem O4 {p:Addr}{o:MO}{so sp:List Str}{M:Own}{Q:DS->Own->Prop}(m:M p=some o) (ho:BJ o) (hn:namesOK (so++sp)) (he:so≠[]∨sp≠[]) (q:∀(D:Deed) (o':MO),D.real->FA so D=none->(∀n,D.made=some n->sp.head?=some n)->BJ o'->Q (.d D.d) (M.put p o')) :
   [DS.loc p,.d (AY so),.d (AY sp)].length=3/\DD.pre [.loc p,.d (AY so),.d (AY sp)] M/\∀x M',DD.post [.loc p,.d (AY so),.d (AY sp)] M x M'->Q x M':=
 ⟨rfl,⟨p,o,so,sp,rfl,m,ho,hn,he⟩,fun x M' h=>by obtain⟨D,o',rfl,h1,h2,h3,h4,rfl⟩:=h p so sp rfl;exact q D o' h1 h2 h3 h4⟩
def CH:FSp:=⟨fun xs M=>∃(D:Deed) (so sp:List Str),xs=[.d D.d,.d (AY so),.d (AY sp)]/\D.real/\namesOK (so++sp)/\FA so D=none,
 fun xs M y M'=>∀(D:Deed) (so sp:List Str),xs=[.d D.d,.d (AY so),.d (AY sp)]->y = .d (.tuple [AY (DU so D),AY (C6 sp D)])/\M'=M⟩
theorem O5 {D:Deed}{so sp:List Str}{M:Own}{Q:DS->Own->Prop}(hr:D.real) (hn:namesOK (so++sp)) (ha:FA so D=none) (q:Q (.d (.tuple [AY (DU so D),AY (C6 sp D)])) M) :
   [DS.d D.d,.d (AY so),.d (AY sp)].length=3/\CH.pre [.d D.d,.d (AY so),.d (AY sp)] M/\∀x M',CH.post [.d D.d,.d (AY so),.d (AY sp)] M x M'->Q x M':=
 ⟨rfl,⟨D,so,sp,rfl,hr,hn,ha⟩,fun x M' h=>by obtain⟨rfl,rfl⟩:=h D so sp rfl;exact q⟩
def CI:FSp:=⟨fun xs M=>∃(p:Addr) (o:MO) (ys:List Str) (n:Nat),xs=[.loc p,.d (AY ys),.d (.int n)]/\M p=some o/\BJ o/\namesOK ys/\n<=ys.length,
 fun xs M y M'=>∀(p:Addr) (ys:List Str) (n:Nat),xs=[.loc p,.d (AY ys),.d (.int n)]->∃(w:List Th) (o:MO),y = .d (wD w)/\kC w/\(w.map (·.1)).Perm (ys.take n)/\BJ o/\M'=M.put p o⟩
theorem WE {p:Addr}{o:MO}{ys:List Str}{n:Nat}{M:Own}{Q:DS->Own->Prop}(m:M p=some o) (ho:BJ o) (hy:namesOK ys) (hn:n<=ys.length) (q:∀(w:List Th) (o':MO),kC w->(w.map (·.1)).Perm (ys.take n)->BJ o'->Q (.d (wD w)) (M.put p o')) :
   [DS.loc p,.d (AY ys),.d (.int n)].length=3/\CI.pre [.loc p,.d (AY ys),.d (.int n)] M/\∀x M',CI.post [.loc p,.d (AY ys),.d (.int n)] M x M'->Q x M':=
 ⟨rfl,⟨p,o,ys,n,rfl,m,ho,hy,hn⟩,fun x M' h=>by obtain⟨w,o',rfl,h1,h2,h3,rfl⟩:=h p ys n rfl;exact q w o' h1 h2 h3⟩
def BY (l:Str×Deed):PyData:=.tuple [.str l.1,l.2.d]
def AW (w:List Th) (ls:List (Str×Deed)):PyData:=.tuple [wD w,.tuple (ls.map BY)]
def GI:List Str:=["put", "move", "count", "name", "split", "join", "take", "count", "split"]
theorem ZG:∀k∈GI,b9Z k=true:=by decide +kernel
theorem FM {k:Str}(h:k∈GI):zH (.str k)=true:=BP (ZG k h) (by simp[a3J])
theorem CJ {ys:List Str}(h:∀z∈ys,AS z):zH (AY ys)=true:=LT fun z hz=>ED (h z hz)
theorem BK (ys:List Str):a0Z (AY ys) (.list [])=ys.isEmpty:=MG ys
theorem CZ {ys:List Str}{y:Str}:((ys.map a0K).filter fun d=>!a0Z d (.str y)).map id=(ys.filter fun z=>decide (z≠y)).map .str:=by
 rw[a9X,xU]
 congr 1
 apply b7V
 intro z _
 show(!a0Z (.str z) (.str y))=_
 rw[BF]
 by_cases e:z=y <;> simp[e]
theorem HV {as bs:List Str}(h:AY as=AY bs):as=bs:=TQ (by unfold AY at h;exact PyData.list.inj h)
theorem EV {p p':Addr}{so so' sp sp':List Str}(e:[DS.loc p,.d (AY so),.d (AY sp)]=[.loc p',.d (AY so'),.d (AY sp')]):p=p'/\so=so'/\sp=sp':=by
 simp only[List.cons.injEq,DS.loc.injEq,DS.d.injEq,and_true] at e
 exact⟨e.1,HV e.2.1,HV e.2.2⟩
theorem GJ {D D':Deed}{so so' sp sp':List Str}(e:[DS.d D.d,.d (AY so),.d (AY sp)]=[.d D'.d,.d (AY so'),.d (AY sp')]):D=D'/\so=so'/\sp=sp':=by
 simp only[List.cons.injEq,DS.d.injEq,and_true] at e
 exact⟨EF e.1,HV e.2.1,HV e.2.2⟩
theorem XV {ys:List Str}(h:∀z∈ys,AS z):(ys.filter fun z=>decide (z≠a0Q ""))=ys:=List.filter_eq_self.mpr fun z hz=>by
 have:=(h z hz).1
 simp
 intro e
 rw[e] at this
 exact absurd this (by decide +kernel)
def wB2 (t:Th):Str×List PyData:=(t.1,[.int t.2.1,.int t.2.2])
def unB (u:Str×List PyData):Th:=match u with | (a,[.int p,.int c])=>(a,p,c) | (a,_)=>(a,0,0)
theorem dL (w:List Th):(w.map wB2).map L6=w.map thD:=by rw[zD];rfl
theorem dM {ts:List (Str×List PyData)}{w:List Th}(h:ts.Perm (w.map wB2)):(ts.map unB).Perm w/\ts.map L6=(ts.map unB).map thD/\(ts.map unB).map (·.1)=ts.map (·.1):=by
 have e:(w.map wB2).map unB=w:=by rw[zD];exact a9X _
 refine⟨by have:=h.map unB;rw[e] at this;exact this,?_,?_⟩
 · rw[zD]
   apply yM
   intro u hu
   obtain⟨t,_,rfl⟩:=zL.mp (h.mem_iff.mp hu)
   rfl
 · rw[zD]
   apply yM
   intro u hu
   obtain⟨t,_,rfl⟩:=zL.mp (h.mem_iff.mp hu)
   rfl
theorem WF {ts:List (Str×List PyData)}(h:ts.Pairwise fun x y=>x.1.cps.toList < y.1.cps.toList):Ris (ts.map (·.1)):=by
 unfold Ris
 rw[a6X]
 exact h.imp fun {a b} q=>by rw[← pR];exact decide_eq_true q
theorem dN {α:Type}{xs:List α}{x:α}{n:Nat}(hn:xs.length=n+1) (h:xs[n]?=some x):atI xs (-1)=some x:=by
 have e:ixN xs.length (-1)=some n:=by
   unfold ixN
   rw[hn,if_neg (by omega),if_pos (by omega)]
   congr 1
   omega
 unfold atI
 rw[e]
 exact h
theorem UH {K:Frg}{M:Own}{Q:DS->Own->Prop}{a:Addr}{ds:List PyData}(m:M a=some (.l ds)) (q:Q (.d (.tuple ds)) M):DR K (NG K) [.loc a] M Q:=fun H vs QQ oa s k=>by
 obtain⟨v,r,rfl,h1,h2⟩:=s
 cases h2
 unfold SI at h1
 subst h1
 obtain⟨vs,h0,hd⟩:=oa a _ m
 refine⟨a,vs,rfl,.inl ⟨SqL.of h0,fun p hp=>?_⟩⟩
 have g:Grow K M.W M.W H (upd H p (.tup vs)):=AR _ hp
 refine k _ _ (.d (.tuple ds)) M (oa.new hp) ?_ ⟨g⟩ q
 unfold SI DV
 exact⟨p,vs,rfl,.inl ⟨fun w=>w (oa.none hp),.inl AE⟩,hd.grow g⟩
theorem UI:∀z∈[a0Q "me", "you", "abcdefgh"],AS z:=by
 intro z hz
 simp only[yX,xX,or_false] at hz
 rcases hz with rfl | rfl | rfl <;> (refine⟨by decide +kernel,by decide +kernel,?_⟩;decide +kernel)
theorem ZH:xJ 915965594177219015054603514932384110774149374281672134266497<=256:=by decide +kernel
theorem iX {c:Int}(h:xJ c<=2 ^ 21):IntMulOk c 915965594177219015054603514932384110774149374281672134266497:=PySem.IntMulOk.of_le h ZH (by decide)
end DL
namespace DL
open PySem PySem.Spec L2
def B4 (ts:List (Int×PyData)):List (PyData×PyData):=ts.map fun t=>(a4W t.1,t.2)
def HF (ts:List (Int×PyData)) (k:Int) (d:PyData):List (Int×PyData):=
 if (ts.any fun t=>decide (t.1=k))=true then ts.map (fun t=>if t.1=k then (t.1,d) else t) else ts++[(k,d)]
section
variable {K:Frg}{H:Hp}{W:Addr->Prop}
theorem C8 {t:Int×PyData}{ts:List (Int×PyData)}{ks:List (Key×V)}:DKV K H W (B4 (t::ts)) ks↔∃v r,ks=(a8K t.1,v)::r/\DV K H W t.2 v/\DKV K H W (B4 ts) r:=by
 unfold B4
 rw[zI]
 constructor
 · intro h
   unfold DKV at h
   obtain⟨k',v,r,e,e2,h1,h2⟩:=h
   cases k' with
   | inr i=>cases e2
   | inl x=>
     have e3:t.1=x:=by simpa [YU] using e2
     subst e3
     exact⟨v,r,e,h1,h2⟩
 · rintro⟨v,r,e,h1,h2⟩
   unfold DKV
   exact⟨a8K t.1,v,r,e,rfl,h1,h2⟩
theorem FN {ks:List (Key×V)}:DKV K H W (B4 []) ks↔ks=[]:=by unfold B4;simp only[a5Z];unfold DKV;exact Iff.rfl
theorem QA:∀{ts:List (Int×PyData)}{ks:List (Key×V)},DKV K H W (B4 ts) ks->ks.map (·.1)=(ts.map (·.1)).map a8K
 | [],ks,h=>by rw[FN.mp h];rfl
 | t::ts,ks,h=>by obtain⟨v,r,rfl,_,h2⟩:=C8.mp h;simp[QA h2]
theorem UJ {k:Int}:∀{ts:List (Int×PyData)}{ks:List (Key×V)},DKV K H W (B4 ts) ks->(ks.any fun kv=>decide (kv.1=a8K k))=ts.any fun t=>decide (t.1=k)
 | [],ks,h=>by rw[FN.mp h];rfl
 | t::ts,ks,h=>by
   obtain⟨v,r,rfl,_,h2⟩:=C8.mp h
   rw[a6Q,a6Q,UJ h2]
   congr 1
   by_cases e:t.1=k
   · rw[decide_eq_true e,decide_eq_true (by rw[e])]
   · rw[decide_eq_false e,decide_eq_false fun q=>e (by injection q)]
theorem LA {k:Int}{d:PyData}{v:V}(hd:DV K H W d v):∀{ts:List (Int×PyData)}{ks:List (Key×V)},DKV K H W (B4 ts) ks ->
   DKV K H W (B4 (ts.map fun t=>if t.1=k then (t.1,d) else t)) (ks.map fun kv=>if kv.1=a8K k then (kv.1,v) else kv)
 | [],ks,h=>by rw[FN.mp h];exact FN.mpr rfl
 | t::ts,ks,h=>by
   obtain⟨u,r,rfl,h1,h2⟩:=C8.mp h
   rw[zI,zI]
   by_cases e:t.1=k
   · rw[if_pos e,if_pos (by rw[e])]
     exact C8.mpr ⟨v,_,rfl,hd,LA hd h2⟩
   · rw[if_neg e,if_neg fun q=>e (by injection q)]
     exact C8.mpr ⟨u,_,rfl,h1,LA hd h2⟩
theorem QC {k:Int}{d:PyData}{v:V}(hd:DV K H W d v):∀{ts:List (Int×PyData)}{ks:List (Key×V)},DKV K H W (B4 ts) ks->DKV K H W (B4 (ts++[(k,d)])) (ks++[(a8K k,v)])
 | [],ks,h=>by rw[FN.mp h];exact C8.mpr ⟨v,[],rfl,hd,FN.mpr rfl⟩
 | t::ts,ks,h=>by
   obtain⟨u,r,rfl,h1,h2⟩:=C8.mp h
   exact C8.mpr ⟨u,_,rfl,h1,QC hd h2⟩
theorem UK {k:Int}{d:PyData}{v:V}{ts:List (Int×PyData)}{ks:List (Key×V)}(h:DKV K H W (B4 ts) ks) (hd:DV K H W d v):DKV K H W (B4 (HF ts k d)) (CV ks (a8K k) v):=by
 unfold HF CV
 rw[UJ h]
 by_cases c:(ts.any fun t=>decide (t.1=k))=true
 · rw[if_pos c,if_pos c];exact LA hd h
 · rw[if_neg c,if_neg c];exact QC hd h
end
section
variable {K:Frg}{M:Own}{Q:DS->Own->Prop}{ρ:List (Option DS)}{H:Hp}{td ty tv:TE}{D:EndsD}
theorem UL (h:DE K tv ρ M fun z M1=>DE K td ρ M1 fun x M2=>DE K ty ρ M2 fun y M3=>∃(a:Addr) (ts:List (Int×PyData)) (k:Int) (d:PyData),z = .d d/\x = .loc a/\y = .d (.int k)/\M3 a=some (.d (B4 ts))/\ts.length < sizeLine/\D.nx ρ (M3.put a (.d (B4 (HF ts k d))))):DSt K (bB td ty tv) ρ M D:=fun σ H E R k1 k2 k3 k4=>
 h σ H _ R fun v H1 z M1 o1 s1 t1 h1=>h1 σ H1 _ (R.step o1 t1) fun u H2 x M2 o2 s2 t2 h2=>h2 σ H2 _ (R.step o2 (t1.trans t2)) fun yv H3 y M3 o3 s3 t3 h3=>by
   obtain⟨a,ts,k,d,rfl,rfl,rfl,m,hl,q⟩:=h3
   unfold SI at s2
   subst s2
   rw[BB s3]
   obtain⟨ks,e1,e2⟩:=o3 a _ m
   have hd:DV K H3 M3.W d v:=DV.grow (t2.trans t3).grow s1
   obtain⟨o4,t4⟩:=EC o3 m (UK (k:=k) e2 hd)
   have hlen:ks.length < sizeLine:=by rw[IL e2];unfold B4;rw[zX];exact hl
   have ta:=((t1.trans t2).trans t3).trans t4
   exact⟨a,_,rfl,.inl ⟨ks,a8K k,e1,rfl,hlen,rfl⟩,k1 ρ _ σ _ (R.step o4 ta) ta q⟩
end
section
variable {K:Frg}{M:Own}{ρ:List (Option DS)}{wi:TI}{g:TG}{H:Hp}
theorem dO (ts:List (Int×PyData)) (k:Int) (d:PyData):(HF ts k d).length<=ts.length+1:=by
 unfold HF
 split
 · rw[zX];exact b5Z _
 · rw[yY];exact zR _
theorem UM (f:PyData->Int) (w:PyData->PyData):∀(ds:List PyData) (ts:List (Int×PyData)),(ds.foldl (fun ts d=>HF ts (f d) (w d)) ts).length<=ts.length+ds.length
 | [],ts=>zR _
 | d::r,ts=>by
   have h1:=UM f w r (HF ts (f d) (w d))
   have h2:=dO ts (f d) (w d)
   rw[yR]
   show(r.foldl _ (HF ts (f d) (w d))).length<=_
   omega
theorem ZI {fr:List (Option Nat)}{tt:TT}{tk tv:TE}{T:List Nat}{Q:DS->Own->Prop}(ho:HK g T) (hT:∀i∈T,∀j,fr[i]?≠some (some j))
   (h:DI K wi ρ M fun ds M1=>ds.length < sizeLine/\∃(c:PyData->Bool) (f:PyData->Int) (w:PyData->PyData),True /\
     (∀d∈ds,∀M',DG K g d (EB fr ρ) M' fun ρ2 M2=>M2=M'/\DT K tt ρ2 M2 fun b M3=>M3=M'/\b=c d/\(c d=true->DE K tk ρ2 M3 fun y M4=>y = .d (.int (f d))/\M4=M'/\DE K tv ρ2 M4 fun z M5=>z = .d (w d)/\M5=M')) /\
     ∀p,M1 p=none->Q (.loc p) (M1.put p (.d (B4 ((ds.filter c).foldl (fun ts d=>HF ts (f d) (w d)) []))))) :
   DE K (NR fr wi g tt tk tv) ρ M Q:=fun σ H QQ R k=>
 h σ H _ R fun J ds H1 M1 o1 t1 wd ⟨hsz,c,f,w,nd,he,hq⟩=>by
   intro A hA
   obtain⟨oA,sA⟩:=K1 (kvs:=[]) (ks:=[]) o1 hA (by unfold DKV;rfl)
   have hM:=o1.none hA
   let acc:Nat->List (Int×PyData):=fun i=>((ds.take i).filter c).foldl (fun ts d=>HF ts (f d) (w d)) []
   refine⟨fun i m ys H2=>m=ds.length - i/\i<=ds.length/\H2 A=some (.dK ys)/\OA K H2 (M1.put A (.d (B4 (acc i))))/\Step K M1 (M1.put A (.d (B4 (acc i)))) H1 H2,⟨_,rfl,xT _,AE,oA,sA⟩,?_⟩
   rintro i m ys H2 ⟨rfl,hi,hys,oa,st⟩
   refine⟨hys,?_⟩
   by_cases hlt:i < ds.length
   · refine .inr ⟨wd.go i H2 _ hlt oa st,fun x H3 y=>?_⟩
     obtain⟨oa3,st3,d,e1,e2⟩:=wd.yld i H2 _ x H3 oa st hlt y
     have Rc:Rel K (M1.put A (.d (B4 (acc i)))) (EB fr ρ) (L2.capt fr σ) H3:=((R.step o1 t1).step oa3 (st.trans st3)).capt
     have ts:(ds.take (i+1)).filter c=(ds.take i).filter c++(if c d then [d] else []):=take_succ_filter c ds i d e1
     refine ho _ _ _ _ (he d (yN e1) _ (L2.capt fr σ) H3 x _ Rc e2 fun ρ3 M3 σ3 H4 R3 st4 ⟨eM,b3⟩ hext=>⟨fun i' v' hv'=>?_,?_⟩)
     · obtain⟨j,f1,f2⟩:=CW hv'
       rw[hext i' fun hm=>hT i' hm j f1]
       exact hv'
     · subst eM
       refine b3 σ3 H4 _ R3 fun b H5 M5 o5 st5 ⟨eM5,eb,h5⟩=>?_
       subst eM5
       have sx:=((st.trans st3).trans st4).trans st5
       cases hb:c d with
       | false=>
         rw[hb] at eb
         subst eb
         rw[if_neg nft]
         obtain⟨ks,q1,q2⟩:=o5 A _ zU
         have ea:acc (i+1)=acc i:=by show(((ds.take (i+1)).filter c).foldl _ _)=_;rw[ts,hb];simp[acc]
         refine⟨ks,ds.length - (i+1),by omega,rfl,hlt,q1,?_,?_⟩
         · rw[ea];exact o5
         · rw[ea];exact sx
       | true=>
         rw[hb] at eb
         subst eb
         rw[if_pos rfl]
         refine h5 hb σ3 H5 _ (R3.step o5 st5) fun y H6 z M6 o6 s6 st6 ⟨ez,eM6,h6⟩=>?_
         subst ez eM6
         refine h6 σ3 H6 _ ((R3.step o5 st5).step o6 st6) fun y2 H7 z2 M7 o7 s7 st7 ⟨ez2,eM7⟩=>?_
         subst ez2 eM7
         obtain⟨ks,q1,q2⟩:=o7 A _ zU
         obtain⟨w1,w2⟩:=EC o7 zU (UK (k:=f d) q2 s7)
         have ea:acc (i+1)=HF (acc i) (f d) (w d):=by
           show(((ds.take (i+1)).filter c).foldl _ _)=_
           rw[ts,hb,if_pos rfl,List.foldl_append];rfl
         have hlen:ks.length < sizeLine:=by
           rw[IL q2]
           unfold B4
           rw[zX]
           refine zQ (UM _ _ _ _) ?_
           rw[b4J,b6W]
           exact zQ (zN (yJ _ _) (by rw[a2X];omega)) hsz
         rw[yI] at w1 w2
         refine⟨ks,a8K (f d),BB s6,q1,hlen,ds.length - (i+1),by omega,rfl,hlt,AE,?_,?_⟩
         · rw[ea];exact w1
         · rw[ea];exact((sx.trans st6).trans st7).trans w2
   · have e:i=ds.length:=by omega
     subst e
     refine .inl ⟨wd.stop H2 _ oa st,k _ H2 (.loc A) _ oa rfl (t1.trans st) ?_⟩
     have:=hq A hM
     have ea:acc ds.length=(ds.filter c).foldl (fun ts d=>HF ts (f d) (w d)) []:=by show(((ds.take ds.length).filter c).foldl _ _)=_;rw[a3X]
     rw[ea]
     exact this
end
end DL
namespace L2
open PySem PySem.Spec PyProof.Rows PySem.W
section
variable {prog:Program}{w:World}{A:Around}{E:Value->Shared->Prop}{s:Shared}
theorem S6 {d:Addr}{kvs:List (Key×Value)}{ss:List Int}{Q:Value->Shared->Prop}(hh:A.handled=none) (hd:(d==sysModules)=false) (dd:s.heap.DictOf (AK prog w) d kvs) (hk:kvs.map (·.1)=ss.map a8K) (h64:ss.length < 64)
   (h:∀(h1 h':Heap) (tk:Nat) (out:List Value) (e:Nat) (ss':List Int),(∀b o,s.heap.get? b=some o->h1.get? b=some o)->(∀b o,h1.get? b=some o->h'.get? b=some o)->h'.get? h1.objs.size=some (seqObj "list" out.toArray e)->IntsAre out ss'->ss'.Perm ss->ss'.Pairwise (·<=·)->Q (.ref h1.objs.size) { s with heap:=h',toks:=tk }) :
   wpAny (model prog w) A (call (.builtin "sorted") [.ref d]) Q E s:=by
 refine b6X kind_sorted plain_sorted entry_sorted (args_sorted1 _) ?_
 obtain⟨ep,hat⟩:=dd.dictAt
 have hlen:kvs.length=ss.length:=by have:=congrArg b2W hk;simpa using this
 unfold Builtin.«sorted»;refine zZ (m:=checkCount "sorted" 1 1 _) (zY (zZ (kdu_collect (A:=A.in1) (kdl_dict (kvs:=kvs) (ep:=ep) hd) hh hat (by rw[hlen,sizeLine_eq];omega) fun h' tk acc hold hacc=>?_)))
 have hl:acc.toList.length=ss.length:=by rw[a4Q,hacc.1,hlen]
 have hS:IntsAre acc.toList ss:=by
   have go:∀(vs:List Value) (zs:List Int),vs.length=zs.length->(∀(i:Nat) v x,vs[i]?=some v->zs[i]?=some x->∃t,v=b7Q x t)->IntsAre vs zs:=by
     intro vs
     induction vs with
     | nil=>intro zs hz _;cases zs with
       | nil=>exact .nil
       | cons _ _=>simp at hz
     | cons v vs ih=>intro zs hz hv;cases zs with
       | nil=>simp at hz
       | cons x zs=>
         obtain⟨t,rfl⟩:=hv 0 v x rfl rfl
         exact .cons x t (ih zs (by simpa using hz) fun i v x e1 e2=>hv (i+1) v x (by simpa using e1) (by simpa using e2))
   refine go _ _ hl fun i v x e1 e2=>?_
   obtain⟨k,y,g1,g2⟩:=hacc.2 i v (by rw[← a5X];exact e1)
   have e3:(kvs.map (·.1))[i]?=some k:=by rw[zF,g1];rfl
   rw[hk,zF,e2] at e3
   cases e3
   have g2':JU (.inl x) v=true:=g2
   rcases AZ g2' with ⟨i,t,e,e'⟩ | ⟨z,t,e,e'⟩
   · cases e;exact⟨t,e'⟩
   · cases e
 refine zZ (wpAny_newList ?_ (by rw[hl,sizeLine_eq];omega))
 have hoL:(h'.push (seqObj "list" acc.toList.toArray 0)).get? h'.objs.size=some (seqObj "list" acc.toList.toArray 0):=yZ _ rfl
 show wpAny _ _ _ _ _ { s with heap:=h'.push (seqObj "list" acc.toList.toArray 0),toks:=tk }
 refine zZ (wpAny_holding (wpAny_call_entry (s:={ s with heap:=h'.push (seqObj "list" acc.toList.toArray 0),toks:=tk }) slot_list_sort ⟨_,hoL,rfl⟩ entry_list_sort (list_sort_tree hoL hS (by rw[hl];exact h64) fun out ns' a1 a2 a3=>⟨_,rfl,?_⟩) (args_list_sort _)))
 obtain⟨e,he⟩:=sortedHeap_at (out:=out) hoL
 refine zY ⟨_,rfl,h h' _ tk out.toList e ns' hold (fun b o q=>?_) (by rw[b3J];exact he) a1 a2 a3⟩
 have lt:b < h'.objs.size:=zM q
 rw[sortedHeap_old (zC lt) (by rw[size_push'];exact b8J lt)]
 exact zW _ q
end
section
variable {X:Cx}
theorem dP:∀{vs:List Value}{ns:List Int},IntsAre vs ns->Vals (ns.map V.int) vs
 | _,_,.nil=>.nil
 | _,_,.cons n t r=>.cons ⟨t,rfl⟩ (dP r)
theorem XW:∀{ns:List Int}{vs:List Value},Vals (ns.map V.int) vs->IntsAre vs ns
 | [],_,.nil=>.nil
 | n::ns,_,.cons r t=>by obtain⟨u,rfl⟩:=r;exact .cons n u (XW t)
def dQ (K:Frg):List V->Hp->VK->Prop:=fun xs H Q=>∃(p:Addr) (ss:List Int),xs=[.ref p]/\SqL K H p (ss.map V.int)/\ss.length < 64/\∀(ss':List Int) (q:Addr),ss'.Perm ss->ss'.Pairwise (·<=·)->H q=none->Q (.ref q) (upd H q (.lst (ss'.map V.int)))
def XX:List V->Hp->VK->Prop:=fun xs H Q=>∃(p:Addr) (kvs:List (Key×V)) (ss:List Int),xs=[.ref p]/\Rd H p (.dK kvs)/\kvs.map (·.1)=ss.map a8K/\ss.length < 64/\∀(ss':List Int) (q:Addr),ss'.Perm ss->ss'.Pairwise (·<=·)->H q=none->Q (.ref q) (upd H q (.lst (ss'.map V.int)))
theorem WG:B6 X (.builtin "sorted") (dQ X.K):=by
 intro pins s σ H xs us Q I r h
 obtain⟨p,ss,rfl,hp,h64,q⟩:=h
 obtain⟨u,rfl,ru⟩:=DZ r
 cases ru
 obtain⟨its,rv,pl,hz⟩:=I.list hp
 have hS:=XW rv
 have el:=rv.length
 rw[zX] at el
 refine sorted_ints pl.isList hS (by omega) fun out ss' h1 h2 h3=>?_
 obtain⟨e,he⟩:=sortedAll_at s.heap its out
 have hn:H (s.heap.objs.size+1)=none:=I.hok.fresh (b5Z _)
 have hlen:=h2.length_eq
 refine⟨.ref (s.heap.objs.size+1),_,I.laid (t':=s.toks) (o:=.lst (ss'.map V.int)) (fun b o eb=>sortedAll_old eb) (b5Z _) ?_,rfl,q ss' _ h2 h3 hn⟩
 refine⟨by rw[zX,hlen];exact zN (xR h64) (by decide),out.toList,e,dP h1,?_⟩
 have he':=he
 simpa [seqObj] using he'
theorem UN (hc:X.calm=true):B6 X (.builtin "sorted") XX:=by
 intro pins s σ H xs us Q I r h
 obtain⟨p,kvs,ss,rfl,hp,hk,h64,q⟩:=h
 obtain⟨u,rfl,ru⟩:=DZ r
 cases ru
 obtain⟨z,hd,vs,rel,dd⟩:=IU I.hok hp
 have hk':vs.map (·.1)=ss.map a8K:=by
   rw[← hk]
   clear hk dd z hp q
   unfold KV at rel
   induction rel with
   | nil=>rfl
   | cons h t ih=>simp[h.1,ih]
 refine S6 (I.ok.hd hc) hd dd hk' h64 fun h1 h' tk out e ss' k1 k2 ho hS hperm hsort=>?_
 have I1:Inv X pins σ H { s with heap:=h1,toks:=tk }:=I.kept k1
 have hn:H h1.objs.size=none:=I1.hok.fresh (zR _)
 refine⟨.ref h1.objs.size,_,I1.laid (t':=tk) (o:=.lst (ss'.map V.int)) (h':=h') k2 (zR _) ?_,rfl,q ss' _ hperm hsort hn⟩
 refine⟨by rw[zX,hperm.length_eq];exact zN (xR h64) (by decide),out,e,dP hS,?_⟩
 simpa [seqObj] using ho
def S7 (K:Frg):List V->Hp->VK->Prop:=fun xs H Q=>L5 K xs H Q∨dQ K xs H Q∨XX xs H Q
theorem WH (hc:X.calm=true):B6 X (.builtin "sorted") (S7 X.K):=by
 intro pins s σ H xs us Q I r h
 rcases h with h | h | h
 · exact NS hc pins s σ H xs us Q I r h
 · exact WG pins s σ H xs us Q I r h
 · exact UN hc pins s σ H xs us Q I r h
end
end L2
namespace DL
open PySem PySem.Spec L2
theorem WI {X:Cx}{K:Frg}(h:X.K=K) (hc:X.calm=true):B6 X (.builtin "sorted") (S7 K):=h▸WH hc
section
variable {K:Frg}{M:Own}{Q:DS->Own->Prop}{H:Hp}
theorem DF {W:Addr->Prop}:∀{bs:List Int},DVs K H W (bs.map a4W) (bs.map V.int)
 | []=>DVs.nil
 | b::bs=>DVs.cons (by unfold DV;rfl) DF
theorem QD {W:Addr->Prop}:∀{ns:List Int}{vs:List V},DVs K H W (ns.map a4W) vs->vs=ns.map V.int
 | [],vs,h=>by unfold DVs at h;subst h;rfl
 | n::ns,vs,h=>by
   rw[zI] at h
   unfold DVs at h
   obtain⟨v,r,rfl,h1,h2⟩:=h
   unfold DV at h1
   rw[h1,QD h2];rfl
theorem UO {ss:List Int}(h64:ss.length < 64) (q:∀ss':List Int,ss'.Perm ss->ss'.Pairwise (·<=·)->Q (.d (.list (ss'.map .int))) M):DR K (S7 K) [.d (.list (ss.map .int))] M Q:=fun H vs QQ oa s k=>by
 obtain⟨v,r,rfl,h1,h2⟩:=s
 cases h2
 unfold SI DV at h1
 obtain⟨a,vs,rfl,hl,hd⟩:=h1
 have e:=QD hd
 subst e
 refine .inr (.inl ⟨a,ss,rfl,hl.sq,h64,fun ss' p hp hs hn=>?_⟩)
 have g:Grow K M.W M.W H (upd H p (.lst (ss'.map V.int))):=AR _ hn
 refine k _ _ (.d (.list (ss'.map .int))) M (oa.new hn) ?_ ⟨g⟩ (q ss' hp hs)
 unfold SI DV
 exact⟨p,_,rfl,.inl ⟨fun w=>w (oa.none hn),.inl AE⟩,DF⟩
theorem ZJ {a:Addr}{ts:List (Int×PyData)}(m:M a=some (.d (B4 ts))) (h64:ts.length < 64) (q:∀ss:List Int,ss.Perm (ts.map (·.1))->ss.Pairwise (·<=·)->Q (.d (.list (ss.map .int))) M):DR K (S7 K) [.loc a] M Q:=fun H vs QQ oa s k=>by
 obtain⟨v,r,rfl,h1,h2⟩:=s
 cases h2
 unfold SI at h1
 subst h1
 obtain⟨ks,e1,e2⟩:=oa a _ m
 refine .inr (.inr ⟨a,ks,ts.map (·.1),rfl,.inl e1,QA e2,by rw[zX];exact h64,fun ss' p hp hs hn=>?_⟩)
 have g:Grow K M.W M.W H (upd H p (.lst (ss'.map V.int))):=AR _ hn
 refine k _ _ (.d (.list (ss'.map .int))) M (oa.new hn) ?_ ⟨g⟩ (q ss' hp hs)
 unfold SI DV
 exact⟨p,_,rfl,.inl ⟨fun w=>w (oa.none hn),.inl AE⟩,DF⟩
end
end DL
namespace DL
open PySem PySem.Spec L2
open PyProof.Rows (envOfC AllBare)
def kD (k:Nat):Stmt->Stmt
 | .ClassDef _ _ _ b _ _ _ _ _ _ _=>b.getD k (.Pass ⟨0,0,0,0⟩)
 | _=>.Pass ⟨0,0,0,0⟩
end DL
namespace L2
open PySem PySem.Spec PyProof.Rows
def Itk (a:Addr) (o:Obj) (ks:List (Key×V)):It:=
 ⟨fun i H=>H a=some (.frz o (.dK ks))/\i < ks.length,fun i H x H'=>H'=H/\∃k v,ks[i]?=some (k,v)/\x=kV k,fun i H=>H a=some (.frz o (.dK ks))/\ks.length<=i⟩
theorem nP {ks:List (Key×V)}{vs:List (Key×Value)}(r:KV ks vs) {i:Nat}{k:Key}{v:V}(e:ks[i]?=some (k,v)):∃u,vs[i]?=some (k,u):=by
 induction r generalizing i with
 | nil=>simp at e
 | cons h _ ih=>
   cases i with
   | zero=>simp at e;obtain⟨h1,h2⟩:=h;rw[e] at h1;exact⟨_,by simp;exact Prod.ext h1.symm rfl⟩
   | succ i=>simpa using ih (by simpa using e)
theorem iY {k:Key}{u:Value}(h:JU k u=true):RelV (kV k) u:=by
 rcases AZ h with ⟨i,t,rfl,rfl⟩ | ⟨x,t,rfl,rfl⟩
 · exact⟨t,rfl⟩
 · exact⟨t,rfl⟩
theorem ZK {P:Program}{w:World}{K:Frg}{tg:Expr}(a it:Addr) (o:Obj) (ks:List (Key×V)) :
   Turn P w K tg (Itk a o ks) [it] it (fun i h=>∃es ep,o.data = .dict es ep/\h.IsKeyIter it a i ks.length ep) where
 mem:=by simp
 obj:=fun i h st b hb=>by
   have e:b=it:=by simpa using hb
   subst e
   obtain⟨es,ep,_,o',e,c,d⟩:=st
   exact⟨o',e,fun v z=>by rw[d] at z;cases z⟩
 keep:=fun i h h' ⟨es,ep,q,st⟩ k=>⟨es,ep,q,st.at fun o e=>k it (by simp) o e⟩
 item:=by
   intro X hP hw hK hc i pins s σ H E I hf ⟨es,ep,hes,st⟩ ⟨hg,hi⟩
   subst hP hw hK
   obtain⟨f0,f1,f2,f3,f4,f5⟩:=hf it (by simp)
   obtain⟨hget,_,hsm,vs,rel,o',es',ep',ho',r⟩:=I.hok a _ hg
   obtain rfl:o'=o:=Option.some.inj (ho'.symm.trans hget)
   obtain⟨rfl,rfl⟩:es'=es/\ep'=ep:=by have:=r.2.1.symm.trans hes;injection this with a b;exact⟨a,b⟩
   have dat:s.heap.DictAt (AK X.prog X.w) a vs ep':=⟨o',es',ho',r⟩
   obtain⟨⟨k,v⟩,hk⟩:∃kv,ks[i]?=some kv:=⟨ks[i],zV hi⟩
   obtain⟨u,hu⟩:=nP rel hk
   have hl:vs.length=ks.length:=rel.length.symm
   refine wpAny_pyNext_dict_item (by rw[hl];exact st) dat hu fun key h' hkey st' sb=>?_
   rw[hl] at st'
   have I1:Inv X pins σ H { s with heap:=h' }:=I.turned (t':=s.toks) (fun b o hb e=>(sb.2 b hb).trans e) f0 f1 f3 f4 f5
   exact⟨key,rfl,letGo_keyiter (s':={ s with heap:=h' }) st' ⟨kV k,H,I1,iY hkey,⟨rfl,k,v,hk,rfl⟩,⟨es',ep',hes,st'⟩,fun b hb=>(hf b hb).1⟩⟩
 done:=by
   intro X hP hw hK hc i pins s σ H E I hf ⟨es,ep,hes,st⟩ ⟨hg,hi⟩
   subst hP hw hK
   obtain⟨f0,f1,f2,f3,f4,f5⟩:=hf it (by simp)
   obtain⟨hget,_,hsm,vs,rel,o',es',ep',ho',r⟩:=I.hok a _ hg
   obtain rfl:o'=o:=Option.some.inj (ho'.symm.trans hget)
   obtain⟨rfl,rfl⟩:es'=es/\ep'=ep:=by have:=r.2.1.symm.trans hes;injection this with a b;exact⟨a,b⟩
   have dat:s.heap.DictAt (AK X.prog X.w) a vs ep':=⟨o',es',ho',r⟩
   have hl:vs.length=ks.length:=rel.length.symm
   exact wpAny_pyNext_dict_end (I.ok.hd hc) (by rw[hl];exact st) dat (List.getElem?_eq_none_iff.mpr (by rw[hl];exact hi)) fun h' eb=>⟨rfl,I.turned (t':=s.toks) (fun b o hb e=>eb b o hb e) f0 f1 f3 f4 f5⟩
 self:=fun _ _ _ _ _ ⟨_,_,_,st⟩ h=>wpAny_pyIter_keyiter st h
section
variable {X:Cx}{tg:Expr}{pins:List (Addr×Obj)}{σ:St}{H:Hp}{s:Shared}
theorem ZL {a:Addr}{o:Obj}{ks:List (Key×V)}(I:Inv X pins σ H s) (e:H a=some (.dK ks)) (ho:s.heap.get? a=some o):Inv X pins σ (upd H a (.frz o (.dK ks))) s:=by
 have ne:∀b u,H b=some u->(∀z,u≠.dK z)->b≠a:=fun b u q n z=>by rw[z,e] at q;cases q;exact n _ rfl
 have J:=I.un (H':=upd H a (.frz o (.dK ks))) (h':=s.heap) (t':=s.toks) ⟨fun _ _ q _ _ _=>q,fun b u q _ _ _=>⟨u.slots,q⟩,fun b u _ n _=>by rw[AG (fun z=>by rw[z,e] at n;cases n)];exact n,fun b u q _=>⟨u,q⟩,
   fun b xs q=>by rw[AG (ne b _ q fun _ z=>nomatch z)];exact q,fun b u xs q=>by rw[AG (ne b _ q fun _ z=>nomatch z)];exact q,fun b ps q=>⟨#[],by rw[AG (ne b _ q fun _ z=>nomatch z),q];simp⟩⟩ fun b u q=>?_
 · exact J
 · have st:∀{b u},ObjOk X.prog X.w H s.heap b u->ObjOk X.prog X.w (upd H a (.frz o (.dK ks))) s.heap b u:=fun {b u} x=>x.stay (fun _ _ _ q=>q) (fun c q=>by rw[AG (ne c _ q fun _ z=>nomatch z)];exact q) fun c xs q=>by rw[AG (ne c _ q fun _ z=>nomatch z)];exact q
   by_cases z:b=a
   · subst z
     rw[AE] at q
     cases q
     exact⟨ho,st (I.hok b _ e)⟩
   · rw[AG z] at q
     exact st (I.hok b u q)
def kE (tl:TE):TI:=fun σ H R=>tl σ H fun x H1=>∃a,x = .ref a/\((∃ks,H1 a=some (.dK ks)/\∀o,R (Itk a o ks) (upd H1 a (.frz o (.dK ks))))∨∃o ks,H1 a=some (.frz o (.dK ks))/\R (Itk a o ks) H1)
theorem iZ {l:Expr}{tl:TE}(hl:PE X l tl):PI X tg l (kE tl):=by
 intro pins s σ H R I h
 refine thn (hl pins s σ H _ I h) fun v s1 ⟨x,H1,I1,r1,a,ex,q1⟩=>?_
 subst ex
 obtain rfl:v=a0X a:=r1
 have go:∀{H2:Hp}{o:Obj}{ks:List (Key×V)},Inv X pins σ H2 s1->H2 a=some (.frz o (.dK ks))->R (Itk a o ks) H2->wpAny (model X.prog X.w) X.A (pyIter (.ref a)) (PIE X pins σ tg R) X.xe s1:=fun {H2 o ks} I2 e q=>by
   obtain⟨hget,_,hsm,vs,rel,o',es',ep',ho',r⟩:=I2.hok a _ e
   obtain rfl:o'=o:=Option.some.inj (ho'.symm.trans hget)
   have dat:s1.heap.DictAt (AK X.prog X.w) a vs ep':=⟨o',es',ho',r⟩
   have hl:vs.length=ks.length:=rel.length.symm
   refine wpAny_pyIter_dict hsm dat ?_
   rw[hl]
   have I3:Inv X pins σ H2 { s1 with heap:=s1.heap.push { cls:=.type "dict_keyiterator", data:=.fields #[.ref a,.int 0 0,.int ks.length 0,.int ep' 0] } }:=I2.kept (t':=s1.toks) fun b u q=>zW _ q
   refine⟨s1.heap.objs.size,[s1.heap.objs.size],_,Itk a o' ks,H2,rfl,I3,ZK a _ o' ks,⟨es',ep',r.2.1,_,yZ _ rfl,rfl,rfl⟩,fun b hb=>?_,q⟩
   have:b=s1.heap.objs.size:=by simpa using hb
   rw[this]
   exact I2.fpOk (zR _) (I2.hok.fresh (zR _))
 rcases q1 with ⟨ks,e,q⟩ | ⟨o,ks,e,q⟩
 · obtain⟨_,_,vs,_,o,es,ep,ho,_⟩:=I1.hok a _ e
   exact go (ZL I1 e ho) AE (q o)
 · exact go I1 e q
end
end L2
namespace DL
open PySem PySem.Spec L2
abbrev XY (ts:List (Str×PyData)):List PyData:=ts.map fun t=>.str t.1
section
variable {K:Frg}{ρ:List (Option DS)}{M:Own}{H:Hp}{Q:DS->Own->Prop}{QI:List PyData->Own->Prop}{tl td ty tx:TE}{D:EndsD}{t:TS}
theorem dR {W:Addr->Prop}:∀{ts:List (Str×PyData)}{ks:List (Key×V)}{i:Nat}{k:Key}{v:V},DKV K H W (AV ts) ks->ks[i]?=some (k,v)->∃u,ts[i]?=some u/\k=a0V u.1
 | [],ks,i,k,v,h,e=>by rw[GE.mp h] at e;simp at e
 | u::ts,ks,i,k,v,h,e=>by
   obtain⟨w,r,rfl,h1,h2⟩:=CF.mp h
   cases i with
   | zero=>simp at e;exact⟨u,rfl,e.1.symm⟩
   | succ i=>simpa using dR h2 (by simpa using e)
theorem j0 (h:DE K tl ρ M fun x M1=>∃ts:List (Str×PyData),x = .d (.dict (AV ts))/\QI (XY ts) M1):DI K (kE tl) ρ M QI:=fun σ H R Rl k=>
 h σ H _ Rl fun v H1 x M1 o1 s1 t1 h1=>by
   obtain⟨ts,rfl,q⟩:=h1
   unfold SI DV at s1
   obtain⟨a,ks,rfl,nw,hr,hd⟩:=s1
   have hlen:ks.length=ts.length:=by have:=IL hd;unfold AV at this;simpa using this
   have wd:∀{H2:Hp}{o:Obj},H2 a=some (.frz o (.dK ks))->WD K (Itk a o ks) (XY ts) H2 M1:=fun {H2 o} e=>
     ⟨fun i H' M' hi oa st=>⟨st.grow.kept e nw (fun _ z=>nomatch z),by rw[hlen];simpa using hi⟩,fun H' M' oa st=>⟨st.grow.kept e nw (fun _ z=>nomatch z),by rw[hlen];simp⟩,fun i H' M' x H3 oa st hi y=>by
       obtain⟨rfl,kk,vv,ek,rfl⟩:=y
       obtain⟨u,hu,rfl⟩:=dR hd ek
       refine⟨oa,Step.refl,.str u.1,?_,by unfold DV;rfl⟩
       rw[zF,hu];rfl⟩
   refine⟨a,rfl,?_⟩
   rcases hr with e | ⟨o,e⟩
   · refine .inl ⟨ks,e,fun o=>?_⟩
     have g:Grow K M1.W M1.W H1 (upd H1 a (.frz o (.dK ks))):=⟨fun b u e' nb=>by
       by_cases z:b=a
       · subst z;rw[e] at e';cases e';exact .inr ⟨ks,o,rfl,AE⟩
       · exact .inl (by rw[AG z];exact e'),fun b z=>.inl z⟩
     have oa:OA K (upd H1 a (.frz o (.dK ks))) M1:=o1.grow g fun b ob eb=>by
       rw[AG]
       rintro rfl
       exact nw (by unfold Own.W;rw[eb];simp)
     exact k _ _ _ M1 oa (t1.trans ⟨g⟩) (wd AE) q
   · exact .inr ⟨o,ks,e,k _ _ _ M1 o1 t1 (wd e) q⟩
theorem WJ {i:Nat}{a:Addr}{kvs:List (PyData×PyData)}(e:ρ[i]?=some (some (.loc a))) (m:M a=some (.d kvs)) (h:DSt K t (ρ.set i (some (.d (.dict kvs)))) (M.del a) D):DSt K t ρ M D:=fun σ H E R k1 k2 k3 k4=>by
 have hs:(M.del a).Sub M:=fun b o q=>by
   unfold Own.del at q
   by_cases hb:b=a
   · rw[if_pos hb] at q;cases q
   · rw[if_neg hb] at q;exact q
 have st:Step K M (M.del a) H H:=⟨B1 hs⟩
 obtain⟨v,e1,e2⟩:=R.slot i _ e
 obtain⟨vs,q1,q2⟩:=R.own a _ m
 have R1:Rel K (M.del a) ρ σ H:=R.step (R.own.sub hs) st
 have R2:=R1.set (x:=.d (.dict kvs)) (v:=v) (by
   unfold SI DV
   refine⟨a,vs,e2,(fun w=>w (by unfold Own.del;rw[if_pos rfl])),.inl q1,q2.grow (B1 hs)⟩) i
 have e3:σ.set i (some v)=σ:=by
   apply b2V
   intro j
   rw[List.getElem?_set]
   by_cases hij:i=j
   · subst hij
     rw[if_pos rfl,e1]
     split
     · rfl
     · rename_i hl
       rw[a5J (by omega)] at e1;cases e1
   · rw[if_neg hij]
 rw[e3] at R2
 exact h σ H E R2 (fun a b c d e f g=>k1 a b c d e (st.trans f) g) (fun a b c d e f g q=>k2 a b c d e f (st.trans g) q) (fun a b c d e f g=>k3 a b c d e (st.trans f) g) (fun a b c d e f g=>k4 a b c d e (st.trans f) g)
end
end DL
namespace L2
open PySem PySem.Spec PyProof.Rows
def Ite (K:Frg) (l:Addr):It:=
 ⟨fun i H=>∃xs,SqL K H l xs/\i < xs.length,
  fun i H x H'=>∃p a,H p=none/\x = .ref p/\H'=upd H p (.tup [.int (i:Nat),a])/\∀xs,SqL K H l xs->xs[i]?=some a,
  fun i H=>∃xs,SqL K H l xs/\xs.length<=i⟩
theorem ZM {P:Program}{w:World}{K:Frg}{elts:List Expr}{kk:Nat}{tpos:Pos}(e it l:Addr) (d1:e≠it) :
   Turn P w K (.Tuple elts kk tpos) (Ite K l) [e,it] e (fun i h=>(∃old,IsEnum h e it (i:Nat) old)/\h.IsListIter it l i) where
 mem:=by simp
 obj:=fun i h ⟨⟨old,a1⟩,a2⟩ b hb=>by
   simp only[yX,xX,or_false] at hb
   rcases hb with rfl | rfl
   · exact⟨_,a1,fun v q=>by cases q⟩
   · obtain⟨o,q,c,d⟩:=a2;exact⟨o,q,fun v z=>by rw[d] at z;cases z⟩
 keep:=fun i h h' ⟨⟨old,a1⟩,a2⟩ k=>⟨⟨old,k e (by simp) _ a1⟩,a2.at fun o q=>k it (by simp) o q⟩
 item:=by
   intro X hP hw hK hc i pins s σ H E I hf ⟨⟨old,a1⟩,a2⟩ hg
   subst hP hw hK
   obtain⟨xs,hx,lx⟩:=hg
   obtain⟨its,rx,px,_⟩:=I.list hx
   obtain⟨u,hu,ru⟩:=rx.get (zV lx)
   have hle:l≠e:=k6 I (hf e (by simp)) hx
   have hli:l≠it:=k6 I (hf it (by simp)) hx
   refine wpAny_pyNext_enum_item a1 a2 px.isList (x:=u) (by simpa using hu) d1 fun h' b1 b2 b3 b4 hk=>?_
   refine⟨_,rfl,wpAny_letOwnedTupleGo_enum (s:={ s with heap:=h',toks:=s.toks+1 }) b1 fun h2 c1 sb=>?_⟩
   have lt:∀{c o},s.heap.get? c=some o->s.heap.objs.size≠c:=fun q=>a9K (zM q)
   have keep:∀b o,b∉[e,it]->s.heap.get? b=some o->h2.get? b=some o:=fun b o hb q=>by
     simp only[yX,xX,or_false,not_or] at hb
     exact sb.extBut b o hb.1 (hk b o hb.1 hb.2 q)
   have hTe:s.heap.objs.size≠e:=lt a1
   have I1:Inv X pins σ (upd H s.heap.objs.size (.tup [.int (i:Nat),xs[i]])) { s with heap:=h2,toks:=s.toks+1 }:=I.turnedT (t':=s.toks+1) (ch:=[e,it]) keep (fun b hb=>(hf b hb).1)
     (fun b hb=>let q:=hf b hb;⟨q.2.2.2.1,q.2.1,q.2.2.2.2.1,q.2.2.2.2.2⟩) (zR _)
     ⟨by show 2<=sizeLine;decide,[.int (i:Nat) s.toks,u],.cons ⟨_,rfl⟩ (.cons ru .nil),⟨_,sb.extBut _ _ hTe b3,rfl,_,rfl⟩⟩
   refine⟨.ref s.heap.objs.size,_,I1,rfl,⟨s.heap.objs.size,xs[i],I.hok.fresh (zR _),rfl,rfl,fun xs' hx'=>?_⟩,⟨⟨_,c1⟩,b2.extBut sb.extBut (b1Q d1)⟩,fun b hb=>?_⟩
   · rw[I.list_inj hx' hx]
     exact zV lx
   · have hlt:s.heap.objs.size≠b:=by
       simp only[yX,xX,or_false] at hb
       rcases hb with rfl | rfl
       · exact lt a1
       · obtain⟨o,q,_⟩:=a2;exact lt q
     rw[AG (b1Q hlt)]
     exact(hf b hb).1
 done:=by
   intro X hP hw hK hc i pins s σ H E I hf ⟨⟨old,a1⟩,a2⟩ hg
   subst hP hw hK
   obtain⟨xs,hx,hend⟩:=hg
   obtain⟨its,rx,px,_⟩:=I.list hx
   have e1:=rx.length
   refine wpAny_pyNext_enum_end (I.ok.hd hc) a1 a2 px.isList (by rw[b9Q];simp;omega) fun h' hk=>⟨rfl,I.turnedL (t':=s.toks) (ch:=[e,it]) (fun b o hb q=>?_) (fun b hb=>(hf b hb).1) fun b hb=>let q:=hf b hb;⟨q.2.2.2.1,q.2.1,q.2.2.2.2.1,q.2.2.2.2.2⟩⟩
   simp only[yX,xX,or_false,not_or] at hb
   exact hk b o hb.2 q
 self:=fun _ _ _ _ _ st h=>let ⟨_,q⟩:=st.1;wpAny_pyIter_enum q h
section
variable {X:Cx}{K:Frg}
def dS (K:Frg) (ta:TA):TI:=fun σ H R=>ta σ H fun vs H1=>∃a,vs=[.ref a]/\(∃xs,SqL K H1 a xs)/\R (Ite K a) H1
theorem j1 {a:Expr}{ta:TA}{p pos:Pos}{elts:List Expr}{kk:Nat}{tpos:Pos}(hg:Gl X "enumerate") (hm:X.mg "enumerate"=none) (ha:PA X [a] ta) (hs:starEach [a] X.env=[(false,eval a X.env)]:=by rfl) :
   PI X (.Tuple elts kk tpos) (.Call (.Name "enumerate" p) [a] [] pos) (dS X.K ta):=by
 intro pins s σ H R I h
 refine Call_ (G5 I hg hm boot_enumerate (xH (thn (ha pos pins s σ H _ I h) fun us s1 ⟨vs,H1,I1,r1,q1⟩=>?_) hs rfl))
 obtain⟨l,e,⟨xs,hx⟩,q⟩:=q1
 subst e
 obtain⟨u,rfl,ru⟩:=DZ r1
 cases ru
 obtain⟨its,rx,px,_⟩:=I1.list hx
 refine call_enumerate_list px.isList fun h' b1 b2 b3 hk=>?_
 refine wpAny_pyIter_enum (s:={ s1 with heap:=h' }) b1 ?_
 refine⟨s1.heap.objs.size+1,[s1.heap.objs.size+1,s1.heap.objs.size],_,_,H1,rfl,I1.kept (t':=s1.toks) hk,ZM (s1.heap.objs.size+1) s1.heap.objs.size l (Nat.succ_ne_self _),⟨⟨_,b1⟩,b2⟩,fun b hb=>?_,q⟩
 have hle:s1.heap.objs.size<=b:=by
   simp only[yX,xX,or_false] at hb
   rcases hb with rfl | rfl
   · exact a8Z _ _
   · exact zR _
 exact I1.fpOk hle (I1.hok.fresh hle)
theorem pW {a:Expr}{ta:TA}{p pos:Pos}{elts:List Expr}{kk:Nat}{tpos:Pos}(h:X.K=K) (hg:Gl X "enumerate") (hm:X.mg "enumerate"=none) (ha:PA X [a] ta) (hs:starEach [a] X.env=[(false,eval a X.env)]:=by rfl) :
   PI X (.Tuple elts kk tpos) (.Call (.Name "enumerate" p) [a] [] pos) (dS K ta):=h▸j1 hg hm ha hs
end
end L2
namespace DL
open PySem PySem.Spec L2
section
variable {K:Frg}{M:Own}{ρ:List (Option DS)}{QI:List PyData->Own->Prop}
def O6 (as:List PyData):List PyData:=as.zipIdx.map fun p=>.tuple [.int (p.2:Nat),p.1]
theorem j2 {ta:TA}(h:DA K ta ρ M fun xs M1=>∃as,xs=[.d (.list as)]/\QI (O6 as) M1):DI K (dS K ta) ρ M QI:=fun σ H R Rl k=>
 h σ H _ Rl fun vs H1 xs M1 o1 s1 t1 ⟨as,e,q⟩=>by
   subst e
   obtain⟨v,r,rfl,h1,h3⟩:=s1
   cases h3
   unfold SI DV at h1
   obtain⟨a,va,rfl,hl,hd⟩:=h1
   have hlen:(O6 as).length=as.length:=by unfold O6;rw[zX,List.length_zipIdx]
   refine⟨a,rfl,⟨va,hl.sq⟩,k _ (O6 as) H1 M1 o1 t1 ⟨fun i H' M' hi oa st=>?_,fun H' M' oa st=>?_,fun i H' M' x H2 oa st hi y=>?_⟩ q⟩
   · rw[hlen] at hi
     exact⟨va,(hl.grow st.grow).sq,by rw[hd.length];omega⟩
   · refine⟨va,(hl.grow st.grow).sq,?_⟩
     rw[hlen,hd.length];omega
   · obtain⟨p,xa,hp,rfl,rfl,hy⟩:=y
     have e1:=hy va (hl.grow st.grow).sq
     obtain⟨da,f1,f2⟩:=hd.get e1
     have gg:Grow K M'.W M'.W H' (upd H' p (.tup [.int (i:Nat),xa])):=AR _ hp
     refine⟨oa.new hp,⟨gg⟩,.tuple [.int (i:Nat),da],?_,?_⟩
     · unfold O6
       rw[zF,List.getElem?_zipIdx,f1]
       simp
     · unfold DV
       exact⟨p,_,rfl,.inl ⟨fun w=>w (oa.none hp),.inl AE⟩,DVs.cons (by unfold DV;rfl) (DVs.cons ((f2.grow st.grow).grow gg) DVs.nil)⟩
end
end DL
namespace L2
open PySem PySem.Spec PyProof.Rows
section
variable {X:Cx}
def ZN (K:Frg) (neg:Bool):R2:=fun x y H Q=>∃(W:Addr->Prop) (d:PyData) (ds:List PyData),DV K H W d x/\zH d=true/\((DV K H W (.list ds) y/\zH (.list ds)=true)∨(DV K H W (.tuple ds) y/\zH (.tuple ds)=true)) /\
 Q (.bl (if neg then !(ds.any fun e=>a0Z e d) else ds.any fun e=>a0Z e d)) H
theorem S8 {A:Around}{d:PyData}{ds:List PyData}(hu:A.units+64 < cLine) (h:a1Q ds+1<=64):A.units+1+min (a1Q ds) d.depth < cLine:=by
 have:=Nat.min_le_left (a1Q ds) d.depth
 omega
theorem nQ (hu:X.A.units+64 < cLine):OpR X (compareOp .In) (ZN X.K false):=by
 intro pins s σ H x y v u Q I rx ry h
 obtain⟨W,d,ds,h1,s1,⟨h2,s2⟩ | ⟨h2,s2⟩,q⟩:=h
 all_goals
   obtain⟨as,r1⟩:=h1.reads I (zG s1) rx
   obtain⟨bs,r2⟩:=h2.reads I (zG s2) ry
   have dep:=PySem.SeqAt.depth_of_shaped s2
 · exact PySem.SeqAt.in_list_reads r2 r1 (zG s2) (zG s1) (S8 hu dep) ⟨.bl _,H,I,rfl,q⟩
 · exact PySem.SeqAt.in_tuple_reads r2 r1 (zG s2) (zG s1) (S8 hu dep) ⟨.bl _,H,I,rfl,q⟩
theorem ZO (hu:X.A.units+64 < cLine):OpR X (compareOp .NotIn) (ZN X.K true):=by
 intro pins s σ H x y v u Q I rx ry h
 obtain⟨W,d,ds,h1,s1,⟨h2,s2⟩ | ⟨h2,s2⟩,q⟩:=h
 all_goals
   obtain⟨as,r1⟩:=h1.reads I (zG s1) rx
   obtain⟨bs,r2⟩:=h2.reads I (zG s2) ry
   have dep:=PySem.SeqAt.depth_of_shaped s2
 · exact PySem.SeqAt.notIn_list_reads r2 r1 (zG s2) (zG s1) (S8 hu dep) ⟨.bl _,H,I,rfl,q⟩
 · exact PySem.SeqAt.notIn_tuple_reads r2 r1 (zG s2) (zG s1) (S8 hu dep) ⟨.bl _,H,I,rfl,q⟩
end
end L2
namespace DL
open PySem PySem.Spec L2
section
variable {X:Cx}{K:Frg}
theorem pX (h:X.K=K) (hu:X.A.units+64 < cLine):OpR X (compareOp .In) (ZN K false):=h▸nQ hu
theorem XZ (h:X.K=K) (hu:X.A.units+64 < cLine):OpR X (compareOp .NotIn) (ZN K true):=h▸ZO hu
end
section
variable {K:Frg}{M:Own}{ρ:List (Option DS)}{g:TG}{wi:TI}{Q:DS->Own->Prop}
theorem dU {fr:List (Option Nat)}{tt:TT}{te:TE}{T:List Nat}{Q:DS->Own->Prop}(ho:HK g T) (hT:∀i∈T,∀j,fr[i]?≠some (some j))
   (h:DI K wi ρ M fun ds M1=>ds.length < sizeLine/\∀D,M1 D=none->∃P:Nat->List PyData->Own->Prop,P 0 [] (M1.put D (.l []))/\(∀k acc M',P k acc M'->M' D=some (.l acc)/\acc.length<=k) /\
     (∀k d acc M',ds[k]?=some d->P k acc M'->DG K g d (EB fr ρ) M' fun ρ2 M2=>DT K tt ρ2 M2 fun c M3=>if c=true then DE K te ρ2 M3 fun y M4=>∃r,y = .d r/\M4 D=some (.l acc)/\P (k+1) (acc++[r]) (M4.put D (.l (acc++[r]))) else P (k+1) acc M3) /\
     ∀acc M',P ds.length acc M'->Q (.loc D) M') :
   DE K (LQ fr wi g tt te) ρ M Q:=fun σ H QQ R k=>
 h σ H _ R fun J ds H1 M1 o1 t1 wd ⟨hsz,hq⟩=>by
   intro A hA
   obtain⟨P,p0,pa,pt,pe⟩:=hq A (o1.none hA)
   obtain⟨oA,sA⟩:=MX o1 hA (DVs.nil (K:=K) (H:=H1) (W:=M1.W))
   refine⟨fun i m ys H2=>m=ds.length - i/\i<=ds.length/\H2 A=some (.lst ys)/\∃acc M',OA K H2 M'/\Step K M1 M' H1 H2/\P i acc M',⟨_,rfl,xT _,AE,[],_,oA,sA,p0⟩,?_⟩
   rintro i m ys H2 ⟨rfl,hi,hys,acc,M',oa,st,p⟩
   refine⟨hys,?_⟩
   have hs0:∀{N:Own},(N.del A).Sub N:=fun {N} b o q=>by
     unfold Own.del at q
     by_cases hb:b=A
     · rw[if_pos hb] at q;cases q
     · rw[if_neg hb] at q;exact q
   by_cases hlt:i < ds.length
   · refine .inr ⟨wd.go i H2 M' hlt oa st,fun x H3 y=>?_⟩
     obtain⟨oa3,st3,d,e1,e2⟩:=wd.yld i H2 M' x H3 oa st hlt y
     have Rc:Rel K M' (EB fr ρ) (L2.capt fr σ) H3:=((R.step o1 t1).step oa3 (st.trans st3)).capt
     refine ho _ _ _ _ (pt i d acc M' e1 p (L2.capt fr σ) H3 x _ Rc e2 fun ρ3 M3 σ3 H4 R3 st4 b3 hext=>⟨fun i' v' hv'=>?_,?_⟩)
     · obtain⟨j,f1,f2⟩:=CW hv'
       rw[hext i' fun hm=>hT i' hm j f1]
       exact hv'
     · refine b3 σ3 H4 _ R3 fun c H5 M5 o5 st5 h5=>?_
       have sx:=((st.trans st3).trans st4).trans st5
       cases c with
       | false=>
         rw[if_neg nft] at h5 ⊢
         obtain⟨hm,_⟩:=pa _ _ _ h5
         obtain⟨vs,q1,q2⟩:=o5 A _ hm
         exact⟨vs,ds.length - (i+1),by omega,rfl,hlt,q1,acc,M5,o5,sx,h5⟩
       | true=>
         rw[if_pos rfl] at h5 ⊢
         refine h5 σ3 H5 _ (R3.step o5 st5) fun y H6 z M6 o6 s6 st6 h6=>?_
         obtain⟨r,rfl,hm,p'⟩:=h6
         obtain⟨vs,q1,q2⟩:=o6 A _ hm
         obtain⟨w1,w2⟩:=FH o6 hm (q2.append (DVs.cons s6 DVs.nil))
         have hlen:acc.length<=i:=(pa _ _ _ p).2
         exact⟨vs,q1,by rw[q2.length];omega,ds.length - (i+1),by omega,rfl,hlt,AE,_,_,w1,(sx.trans st6).trans w2,p'⟩
   · have e:i=ds.length:=by omega
     subst e
     refine .inl ⟨wd.stop H2 M' oa st,?_⟩
     obtain⟨hm,_⟩:=pa _ _ _ p
     obtain⟨vs,q1,q2⟩:=oa A _ hm
     exact k _ H2 (.loc A) M' oa rfl (t1.trans st) (pe acc M' p)
end
end DL
namespace DL
open PySem PySem.Spec L2
def LB:List Str->List Str->List Deed->Prop
 | _,_,[]=>True
 | so,sp,D::r=>FA so D=none/\(∀n,D.made=some n->sp.head?=some n)/\D.real/\LB (DU so D) (C6 sp D) r
def Y0:List Str->List Str->List Deed->List Str×List Str
 | so,sp,[]=>(so,sp)
 | so,sp,D::r=>Y0 (DU so D) (C6 sp D) r
theorem JP:∀{Ds:List Deed}{so sp so' sp':List Str}{D:Deed},LB so sp Ds->Y0 so sp Ds=(so',sp')->FA so' D=none->(∀n,D.made=some n->sp'.head?=some n)->D.real->LB so sp (Ds++[D])/\Y0 so sp (Ds++[D])=(DU so' D,C6 sp' D)
 | [],so,sp,so',sp',D,_,e,h1,h2,h3=>by
   cases e
   exact⟨⟨h1,h2,h3,trivial⟩,rfl⟩
 | F::r,so,sp,so',sp',D,h,e,h1,h2,h3=>by
   obtain⟨g1,g2⟩:=JP (Ds:=r) h.2.2.2 e h1 h2 h3
   exact⟨⟨h.1,h.2.1,h.2.2.1,g1⟩,g2⟩
def Deed.must (D:Deed):List Str:=D.names.filter fun n=>decide (¬D.made=some n)
theorem j3 (D:Deed):UE D.d=D.must:=by
 unfold UE Deed.must
 rw[FL]
 apply b7V
 intro n _
 rw[S4]
 cases h:D.made with
 | none=>rfl
 | some x=>
   show(!a0Z (.str n) (.str x))=decide (¬some x=some n)
   rw[BF]
   by_cases e:n=x
   · subst e;simp
   · have:¬x=n:=fun q=>e q.symm
     simp[e,this]
def mkN (Ds:List Deed) (j:Nat):Option Str:=(Ds[j]?).bind Deed.made
def QE (Ds:List Deed) (k:Nat):List Str:=match Ds[k]? with | some D=>D.must | none=>[]
structure FreshD (Ds:List Deed):Prop where
 one:∀i j x,mkN Ds i=some x->mkN Ds j=some x->i=j
 bef:∀j k x,mkN Ds j=some x->x∈QE Ds k->j < k
theorem ZP (sp:List Str) (D:Deed):(C6 sp D).Sublist sp:=by
 unfold C6
 split
 · exact List.drop_sublist _ _
 · exact a5K _
theorem QF:∀(Ds:List Deed) (so sp:List Str),LB so sp Ds->(so++sp).Nodup->(∀j x,mkN Ds j=some x->x∈sp)/\FreshD Ds
 | [],so,sp,_,_=>⟨fun j x h=>by simp[mkN] at h,fun i j x h=>by simp[mkN] at h,fun j k x h=>by simp[mkN] at h⟩
 | D::r,so,sp,h,nd=>by
   obtain⟨h1,h2,_,h3⟩:=h
   have nd2:(DU so D++C6 sp D).Nodup:=nd.sublist (L9 h2)
   obtain⟨i1,i2⟩:=QF r _ _ h3 nd2
   have sub:=(ZP sp D).subset
   have m0:∀x,mkN (D::r) 0=some x->D.made=some x:=fun x h=>h
   have in0:∀x,D.made=some x->x∈sp:=fun x e=>List.mem_of_mem_head? (h2 x e)
   have all:∀j x,mkN (D::r) j=some x->x∈sp:=fun j x e=>by
     cases j with
     | zero=>exact in0 x e
     | succ j=>exact sub (i1 j x e)
   have dis:∀x,x∈so->x∈sp->False:=fun x a b=>(List.nodup_append.mp nd).2.2 x a x b rfl
   refine⟨all,fun i j x e1 e2=>?_,fun j k x e1 e2=>?_⟩
   · have two:∀j,D.made=some x->mkN r j=some x->False:=fun j a b=>by
       have q1:=i1 j x b
       have q2:=h2 x a
       unfold C6 at q1
       rw[a] at q1
       dsimp only at q1
       have nsp:sp.Nodup:=(List.nodup_append.mp nd).2.1
       cases sp with
       | nil=>simp at q2
       | cons y ys=>
         have:y=x:=by simpa using q2
         subst this
         exact(xV.mp nsp).1 (by simpa using q1)
     cases i with
     | zero=>
       cases j with
       | zero=>rfl
       | succ j=>exact(two j e1 e2).elim
     | succ i=>
       cases j with
       | zero=>exact(two i e2 e1).elim
       | succ j=>rw[i2.one i j x e1 e2]
   · cases k with
     | zero=>
       have hm:x∈D.must:=e2
       obtain⟨a,b⟩:=yL.mp hm
       have b':¬D.made=some x:=of_decide_eq_true b
       exact(dis x (pV h1 a b') (all j x e1)).elim
     | succ k=>
       cases j with
       | zero=>exact Nat.succ_pos _
       | succ j=>exact Nat.succ_lt_succ (i2.bef j k x e1 e2)
theorem N2:∀{l1 l2:List Int},l1.Pairwise (· < ·)->l2.Pairwise (· < ·)->(∀a,a∈l1↔a∈l2)->l1=l2
 | [],[],_,_,_=>rfl
 | [],b::r,_,_,h=>absurd ((h b).mpr (by simp)) (by simp)
 | a::r,[],_,_,h=>absurd ((h a).mp (by simp)) (by simp)
 | a::r,b::s,h1,h2,h=>by
   rw[List.pairwise_cons] at h1 h2
   have e:a=b:=by
     rcases yX.mp ((h a).mp (by simp)) with q | q
     · exact q
     · rcases yX.mp ((h b).mpr (by simp)) with q2 | q2
       · exact q2.symm
       · have:=h1.1 b q2;have:=h2.1 a q;omega
   subst e
   rw[N2 h1.2 h2.2 fun x=>?_]
   constructor
   · intro hx
     rcases yX.mp ((h x).mp (yV _ hx)) with q | q
     · have:=h1.1 x hx;omega
     · exact q
   · intro hx
     rcases yX.mp ((h x).mpr (yV _ hx)) with q | q
     · have:=h2.1 x hx;omega
     · exact q
theorem WK {l:List Int}(h:l.Pairwise (·<=·)) (nd:l.Nodup):l.Pairwise (· < ·):=by
 have:=h.and nd
 exact this.imp fun {a b} q=>by obtain⟨q1,q2⟩:=q;omega
def CB (l:List Nat):List Int:=l.map fun j:Nat=>(j:Int)
theorem O7 {l:List Nat}(h:l.Pairwise (· < ·)):(CB l).Pairwise (· < ·):=by
 unfold CB;rw[a6X];exact h.imp fun {a b} q=>by omega
theorem BD {l:List Nat}{x:Int}:x∈CB l↔∃j,j∈l/\x=(j:Int):=by
 unfold CB
 rw[zL]
 constructor
 · rintro⟨j,a,b⟩;exact⟨j,a,b.symm⟩
 · rintro⟨j,a,b⟩;exact⟨j,a,b.symm⟩
theorem QG (n:Nat):(a0J n).Pairwise (· < ·):=List.pairwise_lt_range
def O8 (Ds:List Deed) (k j:Nat):Bool:=match mkN Ds j with | some x=>decide (x∈QE Ds k) | none=>false
def DH (Ds:List Deed) (k:Nat):List Nat:=(a0J k).filter fun j=>O8 Ds k j
theorem dW (Ds:List Deed) (k:Nat):(DH Ds k).Pairwise (· < ·):=(QG k).filter _
theorem j4 {Ds:List Deed}{k j:Nat}(h:j∈DH Ds k):j < k:=List.mem_range.mp (yL.mp h).1
def mkL (Ds:List Deed) (o:Nat):List (Str×PyData):=match Ds with
 | []=>[]
 | D::r=>(match D.made with | some x=>[(x,a4W (o:Nat))] | none=>[])++mkL r (o+1)
theorem N3:∀(Ds:List Deed) (o:Nat),(∀i j x,mkN Ds i=some x->mkN Ds j=some x->i=j)->∀x,AL (mkL Ds o) x=none/\(∀j,¬mkN Ds j=some x)∨∃j,mkN Ds j=some x/\AL (mkL Ds o) x=some (.int ((o+j:Nat):Int))
 | [],o,_,x=>.inl ⟨rfl,fun j=>by simp[mkN]⟩
 | D::r,o,h,x=>by
   have ih:=N3 r (o+1) (fun i j y a b=>Nat.succ.inj (h (i+1) (j+1) y a b)) x
   cases hm:D.made with
   | none=>
     have e:mkL (D::r) o=mkL r (o+1):=by rw[mkL,hm];rfl
     rw[e]
     rcases ih with ⟨a,b⟩ | ⟨j,a,b⟩
     · refine .inl ⟨a,fun j q=>?_⟩
       cases j with
       | zero=>have:D.made=some x:=q;rw[hm] at this;cases this
       | succ j=>exact b j q
     · exact .inr ⟨j+1,a,by rw[b];congr 2;omega⟩
   | some y=>
     have e:mkL (D::r) o=(y,a4W (o:Nat))::mkL r (o+1):=by rw[mkL,hm];rfl
     rw[e]
     by_cases q:y=x
     · subst q
       exact .inr ⟨0,hm,by simp[AL]⟩
     · rcases ih with ⟨a,b⟩ | ⟨j,a,b⟩
       · refine .inl ⟨by simp[AL,q,a],fun j p=>?_⟩
         cases j with
         | zero=>have:D.made=some x:=p;rw[hm] at this;exact q (Option.some.inj this)
         | succ j=>exact b j p
       · exact .inr ⟨j+1,a,by simp only[AL];rw[if_neg q,b];congr 2;omega⟩
theorem UP:∀(Ds:List Deed) (o:Nat) (x:Str),x∈(mkL Ds o).map (·.1)->∃j,mkN Ds j=some x
 | [],o,x,h=>by simp[mkL] at h
 | D::r,o,x,h=>by
   rw[mkL,xI] at h
   rcases yW.mp h with h | h
   · cases hm:D.made with
     | none=>rw[hm] at h;simp at h
     | some y=>
       rw[hm] at h
       have:x=y:=by simpa using h
       subst this;exact⟨0,hm⟩
   · obtain⟨j,e⟩:=UP r (o+1) x h
     exact⟨j+1,e⟩
theorem QH:∀(Ds:List Deed) (o:Nat),(∀i j x,mkN Ds i=some x->mkN Ds j=some x->i=j)->((mkL Ds o).map (·.1)).Nodup
 | [],o,_=>by simp[mkL]
 | D::r,o,h=>by
   have ih:=QH r (o+1) fun i j y a b=>Nat.succ.inj (h (i+1) (j+1) y a b)
   cases hm:D.made with
   | none=>rw[mkL,hm];exact ih
   | some y=>
     rw[mkL,hm]
     show(y::(mkL r (o+1)).map (·.1)).Nodup
     rw[xV]
     refine⟨fun hy=>?_,ih⟩
     obtain⟨j,e⟩:=UP r (o+1) y hy
     have:=h 0 (j+1) y hm e
     omega
theorem dX {Ds:List Deed}(hf:FreshD Ds) {k:Nat}{D:Deed}(hD:Ds[k]?=some D) (nd:D.must.Nodup) {L ss:List Int}(hL:L=(D.must.filter fun n=>(AL (mkL Ds 0) n).isSome).map fun n=>match AL (mkL Ds 0) n with | some (.int i)=>i | _=>0) (hp:ss.Perm L) (hs:ss.Pairwise (·<=·)):ss=CB (DH Ds k):=by
 have val:∀n j,mkN Ds j=some n->AL (mkL Ds 0) n=some (.int (j:Int)):=fun n j e=>by
   rcases N3 Ds 0 hf.one n with ⟨_,b⟩ | ⟨i,a,b⟩
   · exact absurd e (b j)
   · rw[hf.one j i n e a,b,b6W]
 have ex:∀n,(AL (mkL Ds 0) n).isSome=true->∃j,mkN Ds j=some n:=fun n e=>by
   rcases N3 Ds 0 hf.one n with ⟨a,_⟩ | ⟨i,a,_⟩
   · rw[a] at e;cases e
   · exact⟨i,a⟩
 have hm:QE Ds k=D.must:=by unfold QE;rw[hD]
 have memL:∀x,x∈L↔∃j,j∈DH Ds k/\x=(j:Int):=fun x=>by
   rw[hL,zL]
   constructor
   · rintro⟨n,hn,rfl⟩
     obtain⟨h1,h2⟩:=yL.mp hn
     obtain⟨j,e⟩:=ex n h2
     refine⟨j,?_,by rw[val n j e]⟩
     unfold DH
     refine yL.mpr ⟨List.mem_range.mpr (hf.bef j k n e (by rw[hm];exact h1)),?_⟩
     unfold O8
     rw[e,hm];exact decide_eq_true h1
   · rintro⟨j,hj,rfl⟩
     obtain⟨_,h2⟩:=yL.mp hj
     unfold O8 at h2
     cases e:mkN Ds j with
     | none=>rw[e] at h2;cases h2
     | some n=>
       rw[e,hm] at h2
       refine⟨n,yL.mpr ⟨of_decide_eq_true h2,by rw[val n j e];rfl⟩,by rw[val n j e]⟩
 have ndL:L.Nodup:=by
   rw[hL]
   have inj:∀a∈D.must.filter (fun n=>(AL (mkL Ds 0) n).isSome),∀b∈D.must.filter (fun n=>(AL (mkL Ds 0) n).isSome),(match AL (mkL Ds 0) a with | some (.int i)=>i | _=>0)=(match AL (mkL Ds 0) b with | some (.int i)=>i | _=>0)->a=b:=fun a ha b hb e=>by
     obtain⟨i,ei⟩:=ex a (yL.mp ha).2
     obtain⟨j,ej⟩:=ex b (yL.mp hb).2
     rw[val a i ei,val b j ej] at e
     have:(i:Int)=(j:Int):=e
     have:i=j:=by omega
     subst this
     rw[ei] at ej
     exact Option.some.inj ej
   unfold List.Nodup
   rw[a6X]
   exact((nd.sublist a7K).imp_of_mem fun {a b} ha hb q e=>q (inj a ha b hb e))
 refine N2 (WK hs (hp.nodup_iff.mpr ndL)) (O7 (dW Ds k)) fun x=>?_
 rw[hp.mem_iff,memL,BD]
end DL
namespace DL
open PySem PySem.Spec L2
abbrev EL:=List (Nat×List Nat)
def j5 (E:EL) (m:Nat) (c:List Nat):EL:=if (E.any fun t=>decide (t.1=m))=true then E.map (fun t=>if t.1=m then (t.1,c) else t) else E++[(m,c)]
def chD (c:List Nat):PyData:=.tuple ((CB c).map .int)
def cvE (E:EL):List (Int×PyData):=E.map fun t=>((t.1:Int),chD t.2)
theorem dY (m:Nat):∀E:EL,((cvE E).any fun t=>decide (t.1=(m:Int)))=E.any fun t=>decide (t.1=m)
 | []=>rfl
 | t::r=>by
   show(decide ((t.1:Int)=(m:Int))||_)=(decide (t.1=m)||_)
   rw[show decide ((t.1:Int)=(m:Int))=decide (t.1=m) by rw[a2W,decide_eq_true_iff,decide_eq_true_iff];omega]
   congr 1
   exact dY m r
theorem WL (E:EL) (m:Nat) (c:List Nat):HF (cvE E) (m:Int) (chD c)=cvE (j5 E m c):=by
 unfold HF j5
 rw[dY]
 by_cases h:(E.any fun t=>decide (t.1=m))=true
 · rw[if_pos h,if_pos h]
   unfold cvE
   rw[zD,zD]
   apply yM
   intro t _
   show(if (t.1:Int)=(m:Int) then ((t.1:Int),chD c) else ((t.1:Int),chD t.2))=_
   by_cases e:t.1=m
   · rw[if_pos (by omega)]
     show _=(((if t.1=m then (t.1,c) else t).1:Int),chD (if t.1=m then (t.1,c) else t).2)
     rw[if_pos e]
   · rw[if_neg (by omega)]
     show _=(((if t.1=m then (t.1,c) else t).1:Int),chD (if t.1=m then (t.1,c) else t).2)
     rw[if_neg e]
 · rw[if_neg h,if_neg h]
   unfold cvE
   rw[xI];rfl
end DL
namespace PySem
open Sem (wp)
open AutoSeq1 (wpAny_loadPart')
section
variable {prog:Program}{w:World}{A:Around}{E:Value->Shared->Prop}{s:Shared}
theorem P4 {Q:List Value->Shared->Prop}{r:Addr}{a b c:Int}{t u v:Tok}{n:Nat}(hh:A.handled=none) (hr:IsRange s.heap r a b c t u v) (hsmall:b8Z a b c=true) (hn:b0X a b c=n) (hlen:n<=2 ^ 24)
   (hQ:∀h' tk acc,(∀b o',s.heap.get? b=some o'->h'.get? b=some o')->ItemsOf (fun i v=>∃t,v = .int (a+i*c) t) acc n->Q acc.toList { s with heap:=h',toks:=tk }) :
   wpAny (model prog w) A (collect (.ref r)) Q E s:=by
 unfold collect
 refine zZ (wpAny_runValue (codeAny_builtin F.entry_proto_collect ?_))
 rw[Around.under_plainId F.plain_proto_collect _]
 show wpAny _ A.in1 (newList [] >>= fun l=>again (.builtin "list.__iadd__" ⟨[l,.ref r],[]⟩)) _ _ s
 refine zZ (xM ?_)
 refine zY ⟨plainId_quiet F.plain_list_iadd _,codeAny_builtin F.entry_list_iadd ?_⟩
 rw[Around.under_plainId F.plain_list_iadd _]
 show wpAny _ A.in1 (b2K (.ref s.heap.objs.size) (.ref r) (.ref s.heap.objs.size)) _ _ _
 have hS:(s.heap.push { cls:=.type "list", data:=.seq ([]:List Value).toArray }).get? s.heap.objs.size=some { cls:=.type "list", data:=.seq #[] 0 }:=yZ _ rfl
 refine wpAny_mono (wpAny_extend_range (A:=A) (s:={ s with heap:=s.heap.push { cls:=.type "list", data:=.seq ([]:List Value).toArray } }) (R:=fun rr s'=>rr = .ok (.ret (.ref s.heap.objs.size))/\∃h' tk acc' c',s'={ s with heap:=h',toks:=tk }/\(∀b o,s.heap.get? b=some o->h'.get? b=some o)/\h'.get? s.heap.objs.size=some { cls:=.type "list", dict:=none,data:=.seq acc' c',slots:=#[] }/\ItemsOf (fun i v=>∃t,v = .int (a+i*c) t) acc' n)
   hh (zW _ hr) hsmall hn hlen _ (.ref s.heap.objs.size) 0 hS fun h' tk acc' c' hk hS' hacc=>⟨rfl,h',tk,acc',c',rfl,fun b o e=>hk b o (zC (zM e)) (zW _ e),hS',hacc⟩) (fun fin s' h=>?_) (fun e s' h=>?_)
 · have fin':∀h' tk acc' c',(∀b o,s.heap.get? b=some o->h'.get? b=some o)->h'.get? s.heap.objs.size=some { cls:=.type "list", dict:=none,data:=.seq acc' c',slots:=#[] }->ItemsOf (fun i v=>∃t,v = .int (a+i*c) t) acc' n->wpAny (model prog w) A (match a0X s.heap.objs.size with
     | a0X a=>do
       match (← load a).data with
         | Data.seq xs _=>pure xs.toList
         | _=>unsupported "internal:collect"
     | _=>unsupported "internal:collect") Q E { s with heap:=h',toks:=tk }:=fun h' tk acc' c' hk hS' hacc=>by
     show wpAny _ A (load s.heap.objs.size >>= _) _ _ _
     refine zZ (wpAny_load hS' ?_)
     exact zY (hQ h' tk acc' hk hacc)
   cases fin with
   | done f=>
     obtain⟨e,h',tk,acc',c',rfl,k1,k2,k3⟩:=h
     cases e
     exact fin' h' tk acc' c' k1 k2 k3
   | again c'=>exact⟨h.1,codeAny_mono h.2 fun r s'' hr=>by obtain⟨rfl,h',tk,acc',c',rfl,k1,k2,k3⟩:=hr;exact fin' h' tk acc' c' k1 k2 k3⟩
 · exact absurd h.1 (by simp)
end
theorem K7 (l:Addr) (a b c:Int) (t u v:Tok) (n:Nat) (hsmall:b8Z a b c=true) (hn:b0X a b c=n) (hlen:n<=1000) :
   Meets (Builtin.«tuple.__new__» ⟨[.type "tuple", .ref l],[]⟩)
     (fun A R s=>A.handled=none/\IsRange s.heap l a b c t u v/\∀(h':Heap) (tk:Nat) (acc:Array Value),(∀b o',s.heap.get? b=some o'->h'.get? b=some o')->ItemsOf (fun i v=>∃t,v = .int (a+i*c) t) acc n->R (.ok (.ret (.ref h'.objs.size))) { s with heap:=h'.push { cls:=.type "tuple", data:=.seq acc },toks:=tk }):=
 .of_wp fun prog w A R s h=>by
   obtain⟨hh,ht,h⟩:=h
   have hsub:=sub_tuple_self
   have hinit:=init_tuple_lookup
   have hmh:=madeHere_tuple
   have hT:s.TypeIs (.ref l) "range" := ⟨_,ht,rfl⟩
   have hh1:A.in1.handled=none:=hh
   obtain⟨hp,g,d,tk,os⟩:=s
   wp_walk using wpAny_loadPart' ht,wpAny_typeOf hT,P4 hh1 ht hsmall hn (zN hlen (by decide))
   intro h' tk' acc hk hacc
   show wpAny _ _ (a1K acc.toList.toArray >>= fun v=>ret v) _ _ _
   unfold a1K
   refine zZ (xM ?_ (show acc.toList.toArray.size<=sizeLine by simp only[b3J];rw[hacc.1];exact zN hlen (by decide)))
   refine zY ⟨_,rfl,?_⟩
   have e:acc.toList.toArray=acc:=by simp
   rw[e]
   exact h h' tk' acc hk hacc
section
variable {prog:Program}{w:World}{A:Around}{E:Value->Shared->Prop}{s:Shared}
theorem LC {Q:Value->Shared->Prop}{l:Addr}{a b c:Int}{t u v:Tok}{n:Nat}(hh:A.handled=none) (hr:IsRange s.heap l a b c t u v) (hsmall:b8Z a b c=true) (hn:b0X a b c=n) (hlen:n<=1000)
   (h:∀(h':Heap) (tk:Nat) (acc:Array Value),(∀b o',s.heap.get? b=some o'->h'.get? b=some o')->ItemsOf (fun i v=>∃t,v = .int (a+i*c) t) acc n->Q (.ref h'.objs.size) { s with heap:=h'.push { cls:=.type "tuple", data:=.seq acc },toks:=tk }) :
   wpAny (model prog w) A (call (.type "tuple") [.ref l]) Q E s:=
 callType_new F.called_tuple (by decide) (F.typeCall_tuple_1 _) (F.newCall_tuple_1 _) (fun obj=>F.args_object_init_2 obj _) F.entry_tuple_new
   (K7 l a b c t u v n hsmall hn hlen) ⟨hh,hr,fun h' tk acc hk hacc=>⟨⟨_,yZ _ rfl,rfl⟩,h h' tk acc hk hacc⟩⟩
end
end PySem
namespace L2
open PySem PySem.Spec PyProof.Rows
section
variable {X:Cx}
def Y1 (te:TA):TE:=fun σ H Q=>te σ H fun vs H1=>∃n:Nat,vs=[.int n]/\n<=1000/\∀p,H1 p=none->Q (.ref p) (upd H1 p (.tup ((a0J n).map fun i:Nat=>V.int i)))
theorem ZQ {e:Expr}{te:TA}{np rp pos mp:Pos}(he:PA X [e] te) (hh:X.A.handled=none) (hg:Gl X "range") (hm:X.mg "range"=none) (hg2:Gl X "tuple") (hm2:X.mg "tuple"=none)
   (hs:starEach [.Call (.Name "range" np) [e] [] rp] X.env=[(false,eval (.Call (.Name "range" np) [e] [] rp) X.env)]:=by rfl) (he1:starEach [e] X.env=[(false,eval e X.env)]:=by rfl) :
   PE X (.Call (.Name "tuple" mp) [.Call (.Name "range" np) [e] [] rp] [] pos) (Y1 te):=by
 intro pins s σ H Q I h
 refine wpAny_Call_Name_kw (G5 I hg2 hm2 boot_tuple ?_)
 refine xH ?_ hs rfl
 rw[hs]
 show wpAny _ _ (spliced ((false,eval (.Call (.Name "range" np) [e] [] rp) X.env)::backTo pos (starEach [] X.env))) _ _ _
 refine xP ?_
 refine wpAny_Call_Name_kw (G5 I hg hm boot_range ?_)
 refine xH (thn (he rp pins s σ H _ I h) fun us s1 ⟨vs,H1,I1,r1,q1⟩=>?_) he1 rfl
 obtain⟨n,rfl,hn,q⟩:=q1
 obtain⟨u,rfl,ru⟩:=DZ r1
 obtain⟨t,rfl⟩:=ru
 refine call_range_1 ?_
 show wpAny _ _ (spliced []) _ _ _
 refine zY ?_
 refine LC (n:=n) hh (IsRange.new ..) (small_one (by omega) (by omega) (by omega) (by omega)) (by rw[rangeSize_one];split <;> omega) hn fun h' tk acc hk hacc=>?_
 have I2:Inv X pins σ H1 { s1 with heap:=h',toks:=tk }:=I1.kept fun b o e=>hk b o (zW _ e)
 have hv:Vals ((a0J n).map fun i:Nat=>V.int i) acc.toList:=by
   have go:∀(vs:List Value) (m k:Nat),vs.length=m->(∀i,i < m->∃t,vs[i]?=some (b7Q ((k+i:Nat):Int) t))->Vals ((a0J m).map fun i:Nat=>V.int ((k+i:Nat):Int)) vs:=by
     intro vs
     induction vs with
     | nil=>intro m k e _;cases e;exact .nil
     | cons x r ih=>
       intro m k e hx
       cases e
       rw[yR,List.range_succ_eq_map,zI,zD]
       refine .cons ?_ ?_
       · obtain⟨t,ht⟩:=hx 0 (by simp)
         have:x=b7Q ((k+0:Nat):Int) t:=by simpa using ht
         rw[this];exact⟨t,rfl⟩
       · have:=ih r.length (k+1) rfl fun i hi=>by
           obtain⟨t,ht⟩:=hx (i+1) (by simpa using hi)
           refine⟨t,?_⟩
           rw[List.getElem?_cons_succ] at ht
           rw[ht];congr 2;omega
         have e2:((fun i:Nat=>V.int ((k+i:Nat):Int))∘Nat.succ)=fun i:Nat=>V.int ((k+1+i:Nat):Int):=by
           funext i;show V.int _=V.int _;congr 1;simp;omega
         rw[e2];exact this
   have h0:=go acc.toList n 0 (by rw[a4Q];exact hacc.1) fun i hi=>by
     have hi2:i < acc.size:=by rw[hacc.1];exact hi
     obtain⟨t,ht⟩:=hacc.2 i acc[i] (Array.getElem?_eq_getElem hi2)
     refine⟨t,?_⟩
     rw[a5X,Array.getElem?_eq_getElem hi2,ht];simp
   have e3:(fun i:Nat=>V.int ((0+i:Nat):Int))=fun i:Nat=>V.int i:=by funext i;rw[b6W]
   rw[e3] at h0;exact h0
 have I3:Inv X pins σ (upd H1 h'.objs.size (.tup ((a0J n).map fun i:Nat=>V.int i))) { s1 with heap:=h'.push { cls:=.type "tuple", data:=.seq acc },toks:=tk }:=
   I2.laid (t':=tk) (fun b o e=>zW _ e) (zR _) (show ObjOk X.prog X.w _ _ _ (.tup _) from ⟨by rw[zX,xZ];exact zN hn (by decide),acc.toList,hv,by rw[b3J];exact IsTup.new _ _⟩)
 exact⟨.ref h'.objs.size,_,I3,rfl,q _ (I2.hok.fresh (zR _))⟩
end
end L2
namespace DL
open PySem PySem.Spec L2
section
variable {K:Frg}{R:Rx}{ρ:List (Option DS)}{M:Own}{DX:DXK}{ta:TE}{tl:TA}{Q:DS->Own->Prop}{QL:List DS->Own->Prop}
theorem ZR {te:TA}(h:DA K te ρ M fun xs M1=>∃n:Nat,xs=[.d (.int n)]/\n<=1000/\Q (.d (.tuple ((a0J n).map fun i:Nat=>a4W i))) M1):DE K (Y1 te) ρ M Q:=fun σ H QQ Rl k=>
 h σ H _ Rl fun vs H1 xs M1 o1 s1 t1 ⟨n,ex,hn,q⟩=>by
   subst ex
   obtain⟨v,r,rfl,sv,rfl⟩:=s1
   unfold SI DV at sv
   subst sv
   refine⟨n,rfl,hn,fun p hp=>?_⟩
   have g:Grow K M1.W M1.W H1 (upd H1 p (.tup ((a0J n).map fun i:Nat=>V.int i))):=AR _ hp
   refine k _ _ (.d (.tuple ((a0J n).map fun i:Nat=>a4W i))) M1 (o1.new hp) ?_ (t1.trans ⟨g⟩) q
   unfold SI DV
   refine⟨p,_,rfl,.inl ⟨fun w=>w (o1.none hp),.inl AE⟩,?_⟩
   have e1:((a0J n).map fun i:Nat=>a4W i)=((a0J n).map fun i:Nat=>(i:Int)).map a4W:=by rw[zD];rfl
   have e2:((a0J n).map fun i:Nat=>V.int i)=((a0J n).map fun i:Nat=>(i:Int)).map V.int:=by rw[zD];rfl
   rw[e1,e2]
   exact DF
end
end DL
namespace DL
open PySem PySem.Spec L2
theorem E8:∀{ls ls':List (Str×Deed)},ls.map BY=ls'.map BY->ls=ls'
 | [],[],_=>rfl
 | [],_::_,h=>by simp at h
 | _::_,[],h=>by simp at h
 | a::r,b::s,h=>by
   simp only[zI,List.cons.injEq] at h
   obtain⟨h1,h2⟩:=h
   have h1:b9X [.str a.1,a.2.d] = .tuple [.str b.1,b.2.d]:=h1
   simp only[PyData.tuple.injEq,List.cons.injEq,PyData.str.injEq,and_true] at h1
   rw[E8 h2]
   exact congrArg (·::s) (Prod.ext h1.1 (EF h1.2))
theorem FO {w w':List Th}{ls ls':List (Str×Deed)}(h:AW w ls=AW w' ls'):ls=ls':=by
 unfold AW at h
 simp only[PyData.tuple.injEq,List.cons.injEq,and_true] at h
 exact E8 h.2
abbrev dsL (ls:List (Str×Deed)):List Deed:=ls.map (·.2)
abbrev AJ (ls:List (Str×Deed)):PyData:=.tuple (ls.map BY)
structure goodB (w:List Th) (ls:List (Str×Deed)):Prop where
 fresh:FreshD (dsL ls)
 real:∀l∈ls,l.2.real
 few:ls.length<=50
 hands:∀l∈ls,AS l.1
abbrev AB (ns:List Nat):List PyData:=(CB ns).map .int
def nR (n:Nat) (d:PyData):Bool:=K4 d 0 ((n:Int) - 1)
theorem dZ {n m:Nat}(h:m < n):nR n (.int (m:Int))=true:=by
 show(decide ((0:Int)<=(m:Int))&&decide ((m:Int)<=(n:Int) - 1))=true
 simp only[a1Z,decide_eq_true_eq];omega
theorem AH (ns:List Nat):(AB ns).length=ns.length:=by simp[CB]
theorem e7 {a b:List Nat}(h:AB a=AB b):a=b:=by
 induction a generalizing b with
 | nil=>cases b with
   | nil=>rfl
   | cons y s=>have:=congrArg b2W h;rw[AH,AH] at this;cases this
 | cons x r ih=>cases b with
   | nil=>have:=congrArg b2W h;rw[AH,AH] at this;cases this
   | cons y s=>
     have h:a4W (x:Int)::AB r = .int (y:Int)::AB s:=h
     simp only[List.cons.injEq,PyData.int.injEq] at h
     rw[ih h.2,show x=y by omega]
section
variable {M:Own}{Q:DS->Own->Prop}{w:List Th}{ls:List (Str×Deed)}
def D0:FSp:=⟨fun xs M=>∃(w:List Th) (ls:List (Str×Deed)),xs=[.d (AW w ls)]/\goodB w ls,fun xs M y M'=>∀(w:List Th) (ls:List (Str×Deed)),xs=[.d (AW w ls)]->y = .d (.tuple ((dsL ls).map Deed.d))/\M'=M⟩
theorem O9 (hg:goodB w ls) (q:Q (.d (.tuple ((dsL ls).map Deed.d))) M):[DS.d (AW w ls)].length=1/\D0.pre [.d (AW w ls)] M/\∀x M',D0.post [.d (AW w ls)] M x M'->Q x M':=
 ⟨rfl,⟨w,ls,rfl,hg⟩,fun x M' h=>by obtain⟨rfl,rfl⟩:=h w ls rfl;exact q⟩
def HW:FSp:=⟨fun xs M=>∃(w:List Th) (ls:List (Str×Deed)),xs=[.d (AW w ls)]/\goodB w ls,fun xs M y M'=>∀(w:List Th) (ls:List (Str×Deed)),xs=[.d (AW w ls)]->∃p,M p=none/\y = .loc p/\M'=M.put p (.d (AV (mkL (dsL ls) 0)))⟩
theorem UQ (hg:goodB w ls) (q:∀p,M p=none->Q (.loc p) (M.put p (.d (AV (mkL (dsL ls) 0))))):[DS.d (AW w ls)].length=1/\HW.pre [.d (AW w ls)] M/\∀x M',HW.post [.d (AW w ls)] M x M'->Q x M':=
 ⟨rfl,⟨w,ls,rfl,hg⟩,fun x M' h=>by obtain⟨p,hp,rfl,rfl⟩:=h w ls rfl;exact q p hp⟩
def C9:FSp:=⟨fun xs M=>∃(w:List Th) (ls:List (Str×Deed)) (d:PyData),xs=[.d (AW w ls),.d d],fun xs M y M'=>∀(w:List Th) (ls:List (Str×Deed)) (d:PyData),xs=[.d (AW w ls),.d d]->y = .d (.bool (nR ls.length d))/\M'=M⟩
theorem OB {d:PyData}(q:Q (.d (.bool (nR ls.length d))) M):[DS.d (AW w ls),.d d].length=2/\C9.pre [.d (AW w ls),.d d] M/\∀x M',C9.post [.d (AW w ls),.d d] M x M'->Q x M':=
 ⟨rfl,⟨w,ls,d,rfl⟩,fun x M' h=>by obtain⟨rfl,rfl⟩:=h w ls d rfl;exact q⟩
def K8:FSp:=⟨fun xs M=>∃(w:List Th) (ls:List (Str×Deed)) (k:Nat),xs=[.d (AW w ls),.d (.int k)]/\goodB w ls/\k < ls.length,fun xs M y M'=>∀(w:List Th) (ls:List (Str×Deed)) (k:Nat),xs=[.d (AW w ls),.d (.int k)]->y = .d (chD (DH (dsL ls) k))/\M'=M⟩
theorem WM {k:Nat}(hg:goodB w ls) (hk:k < ls.length) (q:Q (.d (chD (DH (dsL ls) k))) M):[DS.d (AW w ls),.d (.int k)].length=2/\K8.pre [.d (AW w ls),.d (.int k)] M/\∀x M',K8.post [.d (AW w ls),.d (.int k)] M x M'->Q x M':=
 ⟨rfl,⟨w,ls,k,rfl,hg,hk⟩,fun x M' h=>by obtain⟨rfl,rfl⟩:=h w ls k rfl;exact q⟩
def CA:FSp:=⟨fun xs M=>∃D:Deed,xs=[.d D.d]/\D.real,fun xs M y M'=>∀D:Deed,xs=[.d D.d]->y = .d (AY D.must)/\M'=M⟩
theorem ZS {D:Deed}(hr:D.real) (q:Q (.d (AY D.must)) M):[DS.d D.d].length=1/\CA.pre [.d D.d] M/\∀x M',CA.post [.d D.d] M x M'->Q x M':=
 ⟨rfl,⟨D,rfl,hr⟩,fun x M' h=>by obtain⟨rfl,rfl⟩:=h D rfl;exact q⟩
theorem goodB.any {w w':List Th}{ls:List (Str×Deed)}(h:goodB w ls):goodB w' ls:=⟨h.fresh,h.real,h.few,h.hands⟩
end
def fEn:PyData->Str | .tuple [_,.str x]=>x | _=>a0Q ""
def wEn:PyData->PyData | .tuple [i,_]=>i | _=>.none
def cEn:PyData->Bool | .tuple [_,.none]=>false | _=>true
theorem Y2:∀(Ds:List Deed) (o:Nat),((((Ds.map fun D=>HU D.d).zipIdx o).map fun p=>b9X [.int (p.2:Nat),p.1]).filter cEn).map (fun d=>(fEn d,wEn d))=mkL Ds o
 | [],o=>rfl
 | D::r,o=>by
   have ih:=Y2 r (o+1)
   rw[zI,b8W,zI,List.filter_cons]
   rw[S4]
   cases h:D.made with
   | none=>
     rw[mkL,h]
     show(if cEn (.tuple [.int (o:Nat),.none])=true then _ else _:List PyData).map _=_
     rw[show cEn (.tuple [.int (o:Nat),.none])=false from rfl,if_neg nft]
     exact ih
   | some x=>
     rw[mkL,h]
     show(if cEn (.tuple [.int (o:Nat),.str x])=true then _ else _:List PyData).map _=_
     rw[show cEn (.tuple [.int (o:Nat),.str x])=true from rfl,if_pos rfl,zI,ih]
     rfl
theorem WN {D:Deed}(h:D.real):D.must.Nodup:=by
 unfold Deed.must
 refine List.Nodup.sublist a7K ?_
 have ha:=h.2.1
 cases D <;> first | (simp[Deed.names];done) | (simp only[Deed.names,xV,List.mem_singleton,xX,not_false_eq_true,List.nodup_nil,and_true];exact ha)
end DL
namespace DL
open PySem PySem.Spec L2
theorem K9 {K:Frg}{M:Own}{Q:DS->Own->Prop}{neg:Bool}{d:PyData}{ds:List PyData}(s1:zH d=true) (s2:zH (.tuple ds)=true) (q:Q (.d (.bool (if neg then !(ds.any fun e=>a0Z e d) else ds.any fun e=>a0Z e d))) M):D2 K (ZN K neg) (.d d) (.d (.tuple ds)) M Q:=fun H v u QQ oa h1 h2 k=>
 ⟨M.W,d,ds,h1,s1,.inr ⟨h2,s2⟩,k _ H _ M oa AT Step.refl q⟩
theorem LV (ns:List Nat):zH (.list (AB ns))=true:=by
 refine BP (GB fun d hd=>?_) ?_
 · obtain⟨y,h1,rfl⟩:=zL.mp hd
   rfl
 · have:a1Q (AB ns)<=0:=L4 fun d hd=>by
     obtain⟨y,h1,rfl⟩:=zL.mp hd
     simp[a3J]
   simp only[a3J];omega
theorem CK (ns:List Nat):zH (.tuple (AB ns))=true:=by
 refine BP (GB fun d hd=>?_) ?_
 · obtain⟨y,h1,rfl⟩:=zL.mp hd
   rfl
 · have:a1Q (AB ns)<=0:=L4 fun d hd=>by
     obtain⟨y,h1,rfl⟩:=zL.mp hd
     simp[a3J]
   simp only[a3J];omega
theorem E3 (a b:Int):a0Z (.int a) (.int b)=decide (a=b):=by
 have:a0Z (.int a) (.int b)=(a==b):=by simp[a0Z]
 rw[this];rfl
theorem HX (ns:List Nat) (m:Nat):((AB ns).any fun e=>a0Z e (.int (m:Int)))=decide (m∈ns):=by
 rw[a2W,a8Q,decide_eq_true_iff]
 constructor
 · rintro⟨d,hd,he⟩
   obtain⟨i,hi,rfl⟩:=zL.mp hd
   obtain⟨j,hj,rfl⟩:=BD.mp hi
   rw[E3] at he
   have:(j:Int)=(m:Int):=of_decide_eq_true he
   rw[show m=j by omega];exact hj
 · intro h
   exact⟨.int (m:Int),zL.mpr ⟨_,BD.mpr ⟨m,h,rfl⟩,rfl⟩,by rw[E3];simp⟩
theorem OC:∀{Ds:List Deed}{so sp:List Str},LB so sp Ds->∀D∈Ds,D.real
 | D::r,so,sp,h,E,hE=>by
   rcases yX.mp hE with rfl | q
   · exact h.2.2.1
   · exact OC h.2.2.2 E q
def cMk (Ds:List Deed):PyData->Bool | .str n=>(AL (mkL Ds 0) n).isSome | _=>false
def fMk (Ds:List Deed):PyData->PyData | .str n=>(AL (mkL Ds 0) n).getD .none | _=>.none
def nS (Ds:List Deed) (n:Str):Int:=match AL (mkL Ds 0) n with | some (.int i)=>i | _=>0
theorem ZT {Ds:List Deed}(hf:FreshD Ds) (ms:List Str):((ms.map a0K).filter (cMk Ds)).map (fMk Ds)=((ms.filter fun n=>(AL (mkL Ds 0) n).isSome).map (nS Ds)).map .int:=by
 rw[xU,zD,zD]
 apply yM
 intro n hn
 have h2:(AL (mkL Ds 0) n).isSome=true:=(yL.mp hn).2
 show(AL (mkL Ds 0) n).getD .none = .int (nS Ds n)
 unfold nS
 rcases N3 Ds 0 hf.one n with ⟨a,_⟩ | ⟨j,_,b⟩
 · rw[a] at h2;cases h2
 · rw[b];rfl
theorem IN {ls:List (Str×Deed)}{k:Nat}(hk:k < ls.length):∃l,ls[k]?=some l/\l∈ls/\(ls.map BY)[k]?=some (.tuple [.str l.1,l.2.d])/\(dsL ls)[k]?=some l.2:=
 ⟨ls[k],zV hk,b1X hk,by rw[zF,zV hk];rfl,by rw[zF,zV hk];rfl⟩
end DL
namespace DL
open PySem PySem.Spec L2
theorem WO {t:Th}(h:AS t.1):zH (thD t)=true:=by
 refine BP ?_ ?_
 · exact GB (ds:=[.str t.1,.int t.2.1,.int t.2.2]) fun d hd=>by
     simp only[yX,xX,or_false] at hd
     rcases hd with rfl | rfl | rfl
     · exact ED h
     · rfl
     · rfl
 · simp[thD,a3J,a1Q]
theorem ZU {D:Deed}(h:D.ok):zH D.d=true:=by
 have wk:b5J (.str D.word)=true:=zG D.word_ok
 have nk:∀x∈D.names,b5J (.str x)=true:=fun x hx=>ED (h x hx)
 refine BP ?_ (by cases D <;> simp[Deed.d,a3J,a1Q])
 cases D <;> (refine GB ?_;simp only[List.forall_mem_cons])
 · exact⟨wk,nk _ (by simp[Deed.names]),rfl,rfl,by simp⟩
 · exact⟨wk,nk _ (by simp[Deed.names]),by simp⟩
 · exact⟨wk,nk _ (by simp[Deed.names]),rfl,by simp⟩
 · exact⟨wk,nk _ (by simp[Deed.names]),rfl,by simp⟩
 · exact⟨wk,nk _ (by simp[Deed.names]),nk _ (by simp[Deed.names]),by simp⟩
 · exact⟨wk,nk _ (by simp[Deed.names]),nk _ (by simp[Deed.names]),rfl,rfl,by simp⟩
 · exact⟨wk,nk _ (by simp[Deed.names]),nk _ (by simp[Deed.names]),by simp⟩
theorem e8 {d:PyData}(h:zH d=true):a0Z d d=true:=PySem.SeqAt.eqv_refl _ (zG h)
end DL
namespace DL
open PySem PySem.Spec L2
theorem e9 {K:Frg}{M:Own}{Q:DS->Own->Prop}{neg:Bool}{d:PyData}{ds:List PyData}{a:Addr}(m:M a=some (.l ds)) (s1:zH d=true) (s2:zH (.list ds)=true) (q:Q (.d (.bool (if neg then !(ds.any fun e=>a0Z e d) else ds.any fun e=>a0Z e d))) M):D2 K (ZN K neg) (.d d) (.loc a) M Q:=fun H v u QQ oa h1 h2 k=>by
 have hs:(M.del a).Sub M:=fun b o q=>by
   unfold Own.del at q
   by_cases hb:b=a
   · rw[if_pos hb] at q;cases q
   · rw[if_neg hb] at q;exact q
 obtain⟨vs,q1,q2⟩:=oa a _ m
 unfold SI at h2
 subst h2
 have h1':DV K H (M.del a).W d v:=DV.grow (B1 hs) h1
 refine⟨(M.del a).W,d,ds,h1',s1,.inl ⟨?_,s2⟩,k _ H _ M oa AT Step.refl q⟩
 unfold DV
 exact⟨a,vs,rfl,.inl ⟨fun w=>w (by unfold Own.del;rw[if_pos rfl]),.inl q1⟩,q2.grow (B1 hs)⟩
theorem S9 {w:List Th}{ls:List (Str×Deed)}(h:goodB w ls):zH (AJ ls)=true:=by
 refine BP (GB fun d hd=>?_) ?_
 · obtain⟨l,hl,rfl⟩:=zL.mp hd
   refine GB ?_
   simp only[List.forall_mem_cons]
   exact⟨ED (h.hands l hl),zG (ZU (h.real l hl).1),by simp⟩
 · have:a1Q (ls.map BY)<=5:=L4 fun d hd=>by
     obtain⟨l,hl,rfl⟩:=zL.mp hd
     have:l.2.d.depth<=3:=by cases l.2 <;> simp[Deed.d,a3J,a1Q]
     simp only[BY,a3J,a1Q];omega
   simp only[a3J];omega
theorem LD (l:List Nat) (k:Nat):AB l++[.int (k:Int)]=AB (l++[k]):=by
 unfold AB CB;rw[xI,xI];rfl
theorem Y3 {n k:Nat}{d:PyData}(h:(CD 0 ((n:Nat):Int).toNat)[k]?=some d):k < n/\d = .int (k:Int):=by
 have hl:k < n:=by have:=(yT.mp h).1;simpa [CD] using this
 refine⟨hl,?_⟩
 unfold CD at h
 rw[zF,yA (by omega)] at h
 simp at h;exact h.symm
theorem eB (n:Nat):(CD 0 ((n:Nat):Int).toNat).length=n:=by simp[CD]
theorem IO (ds:List PyData):(ds.map fun _=>PyData.bool true)=(a3Z ds.length true).map .bool:=by
 rw[List.map_replicate,← List.map_const' ]
theorem KA (n:Nat):(a3Z n true).all id=true:=by
 rw[b8V];intro x hx;rw[b1V hx];rfl
theorem Y4 {c:List Nat}{i a:Nat}(h:c[i]?=some a):(AB c)[i]?=some (.int (a:Int)):=by
 unfold AB CB
 rw[zF,zF,h];rfl
def pY:PyData->PyData | .tuple ds=>ds.getLast?.getD .none | _=>.none
theorem j6 {c:List Nat}{m:Nat}(h:c.getLast?=some m):atI (AB c) (-1)=some (.int (m:Int))/\pY (chD c) = .int (m:Int):=by
 have hpos:0 < c.length:=by
   cases c with
   | nil=>cases h
   | cons a r=>simp
 have e:(AB c).getLast?=some (.int (m:Int)):=by unfold AB CB;rw[b7W,b7W,h];rfl
 refine⟨dN (n:=c.length - 1) (by rw[AH];omega) ?_,?_⟩
 · rw[List.getLast?_eq_getElem?,AH] at e;exact e
 · show((AB c).getLast?).getD .none=_
   rw[e];rfl
end DL
namespace DL
open PySem PySem.Spec L2
def cKp (F:List Nat) (d:PyData):Bool:=!((AB F).any fun e=>a0Z e d)
end DL
namespace DL
open PySem PySem.Spec L2
theorem ZV {w:List Th}{ls:List (Str×Deed)}(hw:∀t∈w,AS t.1) (hg:goodB w ls):zH (AW w ls)=true:=by
 have h2:=S9 hg
 refine BP (GB ?_) ?_
 · simp only[List.forall_mem_cons]
   refine⟨GB fun d hd=>?_,zG h2,by simp⟩
   obtain⟨t,ht,rfl⟩:=zL.mp hd
   exact zG (WO (hw t ht))
 · have a:a1Q (w.map thD)<=3:=L4 fun d hd=>by
     obtain⟨t,ht,rfl⟩:=zL.mp hd
     simp[thD,a3J,a1Q]
   have b:a1Q (ls.map BY)<=5:=L4 fun d hd=>by
     obtain⟨l,hl,rfl⟩:=zL.mp hd
     have:l.2.d.depth<=3:=by cases l.2 <;> simp[Deed.d,a3J,a1Q]
     simp only[BY,a3J,a1Q];omega
   simp only[AW,wD,a3J,a1Q]
   omega
theorem eF (a b:List Nat):AB a++AB b=AB (a++b):=by unfold AB CB;rw[xI,xI]
section
variable {M:Own}{Q:DS->Own->Prop}{w:List Th}{ls:List (Str×Deed)}
def okN (w:List Th):Prop:=∀t∈w,AS t.1
end
end DL
namespace L2
open PySem PySem.Spec PyProof.Rows
def pZ:List Nat:=[0,1,2,3,4,5,6,7,8,9,10,11,12,13,14,15,16,17,18,19,20,21,22,23]
theorem eG {x:Str}{i:Nat}:∀(l:List Str) (k n:Nat),(l.zip (List.range' k n)).lookup x=some i->k<=i/\l[i - k]?=some x
 | [],_,_,h=>by cases h
 | _::_,_,0,h=>by cases h
 | a::r,k,n+1,h=>by
   rw[List.range'_succ,a6W,a2K] at h
   split at h
   · rename_i e
     have h:=Option.some.inj h
     subst h
     rw[Nat.sub_self]
     exact⟨zR _,by rw[eq_of_beq e];rfl⟩
   · obtain⟨h1,h2⟩:=eG r (k+1) n h
     refine⟨by omega,?_⟩
     rw[show i - k=(i - (k+1))+1 by omega]
     exact h2
theorem OD {l:List Str}{x:Str}{i:Nat}(h:(l.zip pZ).lookup x=some i):l[i]?=some x:=(eG l 0 24 h).2
theorem pvx {X:Cx}{i:Nat}{x:Str}{pos:Pos}(h:(X.N.zip pZ).lookup x=some i) (hv:Vis X.env.scope x) (hd:(x==("__debug__":Str))=false:=by decide)
   (hcd:(x==("__classdict__":Str))=false:=by decide):PE X (.Name x pos) (fM i):=aL (OD h) hv hd hcd
end L2
namespace DL
open PySem PySem.Spec L2
theorem GK {K:Frg}{M:Own}{Q:DS->Own->Prop}{a b:Str}{t:Bool}(h:(zH (.str a)&&zH (.str b)&&(a0Z (.str a) (.str b)==t))=true) (q:Q (.d (.bool t)) M):D2 K (YV K false) (.d (.str a)) (.d (.str b)) M Q:=by
 simp only[a1Z,beq_iff_eq] at h
 exact AU h.1.1 h.1.2 (by rw[if_neg nft,h.2];exact q)
end DL
namespace L2
open PySem PySem.Spec
def qA (scope:Scope) (NC:List Str):Bool:=(NC.all fun x=>(scope.names.lookup x).isSome)&&scope.names.all fun y=>!(y.2==.local||y.2==.free||y.2==.cell)||y.1==a0Q ".0" || NC.contains y.1
theorem DJ {X:Cx}{scope:Scope}{NC:List Str}{fr:List (Option Nat)}{osc:Scope}{ON:List Str}(_:qA scope NC=true) (h:bT osc ON scope NC fr=true) (e:X.env.scope=osc) (eN:X.N=ON):CSc X scope NC fr:=CSc.of h e eN
end L2
namespace L2
open PySem PySem.Spec PyProof.Rows
section
variable {prog:Program}{w:World}{A:Around}{E:Value->Shared->Prop}{s:Shared}
theorem QJ {i t:Addr}{k:Nat}{items:Array Value}(hh:A.handled=none) (hx:items[k]?=none):NxE prog w A i (fun h=>h.IsTupleIter i t k/\h.IsTuple t items):=fun s Q E hS hE=>by
 obtain⟨hit,ht⟩:=hS
 obtain⟨o,ho,hc,hd⟩:=id hit
 obtain⟨ol,hol,hcl,nl,hdl⟩:=id ht
 unfold a1W;refine zZ (wpAny_callSpecial?_slot (name:=a0Q "__next__") hit.typeIs b0V (wpAny_call_entry b0V hit.typeIs F.entry_tuple_iterator_next ?_ (F.args_tuple_iterator_next_1 _)))
 show wpAny _ _ (field (.ref i) 0 >>= _) _ _ s
 refine zZ (wpAny_field ho hd (x:=.ref t) rfl ?_);show wpAny _ _ (if (a0X t==a4J)=true then _ else _) _ _ s
 rw[if_neg (show ¬((a0X t==a4J)=true) from nft)];show wpAny _ _ (field (.ref i) 1 >>= _) _ _ s
 refine zZ (wpAny_field ho hd (x:=.int k 0) rfl ?_);show wpAny _ _ (seqItems? (.ref t) >>= _) _ _ s
 refine zZ (wpAny_seqItems hol hdl ?_);simp only[a7Z,hx]
 refine zZ (wpAny_rule (zZ (wpAny_setField ho hd (by simp) (zZ ?_))))
 simp only[newExc,newTuple];refine zZ (xM (zZ (m:=firstArgMember _ _) (wpAny_of_eq (a:=a4J) (by first | rfl | (simp only[firstArgMember];rfl)) (xM ?_ (by size_fits)))) (by size_fits))
 simp only[raiseNew];refine zZ (wpAny_handled ?_);first | rw[show A.in1.handled=none from hh] | rw[hh]
 exact zZ (zY (wpAny_throw (hE _ _ (((b8K ..).extBut.push _).push _) ⟨_,yZ _ rfl,rfl⟩)))
end
def qB (K:Frg) (l1 l2:Addr):It:=
 ⟨fun i H=>∃xs ys,SqT K H l1 xs/\SqT K H l2 ys/\i < xs.length/\i < ys.length,
  fun i H v H'=>∃p a b,H p=none/\v = .ref p/\H'=upd H p (.tup [a,b])/\(∀xs,SqT K H l1 xs->xs[i]?=some a)/\∀ys,SqT K H l2 ys->ys[i]?=some b,
  fun i H=>∃xs ys,SqT K H l1 xs/\SqT K H l2 ys/\(xs.length<=i∨ys.length<=i)⟩
theorem WP {P:Program}{w:World}{K:Frg}{elts:List Expr}{kk:Nat}{tpos:Pos}(z TI TO i1 i2:Addr) (l1 l2:Addr) (d1:TI≠z) (d2:TO≠z) (d3:i1≠z) (d4:i2≠z) (d5:TI≠TO) (d6:TI≠i1) (d7:TI≠i2) (d8:TO≠i1) (d9:TO≠i2) (d10:i1≠i2) :
   Turn P w K (.Tuple elts kk tpos) (qB K l1 l2) [z,TI,TO,i1,i2] z (fun i h=>IsZip h z TI TO .none/\IsPair h TI (.ref i1) (.ref i2)/\(∃a b,IsPair h TO a b)/\h.IsTupleIter i1 l1 i/\h.IsTupleIter i2 l2 i) where
 mem:=by simp
 obj:=fun i h ⟨a1,a2,⟨x,y,a3⟩,a4,a5⟩ b hb=>by
   simp only[yX,xX,or_false] at hb
   rcases hb with rfl | rfl | rfl | rfl | rfl
   · exact⟨_,a1,fun v q=>by cases q⟩
   · exact⟨_,a2,fun v q=>by cases q⟩
   · exact⟨_,a3,fun v q=>by cases q⟩
   · obtain⟨o,e,c,d⟩:=a4;exact⟨o,e,fun v q=>by rw[d] at q;cases q⟩
   · obtain⟨o,e,c,d⟩:=a5;exact⟨o,e,fun v q=>by rw[d] at q;cases q⟩
 keep:=fun i h h' ⟨a1,a2,⟨x,y,a3⟩,⟨o4,e4,r4⟩,⟨o5,e5,r5⟩⟩ k=>⟨k z (by simp) _ a1,k TI (by simp) _ a2,⟨x,y,k TO (by simp) _ a3⟩,⟨o4,k i1 (by simp) o4 e4,r4⟩,⟨o5,k i2 (by simp) o5 e5,r5⟩⟩
 item:=by
   intro X hP hw hK hc i pins s σ H E I hf ⟨a1,a2,⟨x0,y0,a3⟩,a4,a5⟩ hg
   subst hP hw hK
   obtain⟨xs,ys,hx,hy,lx,ly⟩:=hg
   obtain⟨its1,rx,px,_⟩:=I.tuple hx
   obtain⟨its2,ry,py,_⟩:=I.tuple hy
   obtain⟨u,hu,ru⟩:=rx.get (zV lx)
   obtain⟨v,hv,rv⟩:=ry.get (zV ly)
   have ne1:∀c∈[z,TI,TO,i1,i2],l1≠c:=fun c hc=>RX I (hf c hc) hx
   have ne2:∀c∈[z,TI,TO,i1,i2],l2≠c:=fun c hc=>RX I (hf c hc) hy
   have D:ZAp z TI TO i1 i2 [i1,l1] [i2,l2]:=⟨d2,d3,d4,d8,d9,d10,fun c hc=>by
       rcases yX.mp hc with rfl | hc
       · exact⟨d3,d8.symm,d10⟩
       · have:c=l1:=by simpa using hc
         subst this;exact⟨ne1 z (by simp),ne1 TO (by simp),ne1 i2 (by simp)⟩,fun c hc=>by
       rcases yX.mp hc with rfl | hc
       · exact⟨d4,d9.symm,d10.symm⟩
       · have:c=l2:=by simpa using hc
         subst this;exact⟨ne2 z (by simp),ne2 TO (by simp),ne2 i1 (by simp)⟩⟩
   have t1:∀k,EE [i1,l1] (fun h=>h.IsTupleIter i1 l1 k/\h.IsTuple l1 its1.toArray):=fun k h h' ⟨⟨o,e,r⟩,⟨o',e',r'⟩⟩ q=>⟨⟨o,q i1 (by simp) o e,r⟩,⟨o',q l1 (by simp) o' e',r'⟩⟩
   have t2:∀k,EE [i2,l2] (fun h=>h.IsTupleIter i2 l2 k/\h.IsTuple l2 its2.toArray):=fun k h h' ⟨⟨o,e,r⟩,⟨o',e',r'⟩⟩ q=>⟨⟨o,q i2 (by simp) o e,r⟩,⟨o',q l2 (by simp) o' e',r'⟩⟩
   refine ZB (R1:=fun x=>x=u) (R2:=fun x=>x=v) D (t1 i) (t1 (i+1)) (t2 i) (t2 (i+1)) (fun A=>W3 (ne1 i1 (by simp)) (by simpa using hu)) (fun A=>W3 (ne2 i2 (by simp)) (by simpa using hv)) a1 a2 a3 ⟨a4,px⟩ ⟨a5,py⟩
     (fun h ⟨⟨o,e,_⟩,_⟩=>zM e) (fun h ⟨⟨o,e,_⟩,_⟩=>zM e) fun h' tk u1 u2 eu1 eu2 b1 b2 b3 b4 b5 b6 hk=>?_
   subst eu1;subst eu2
   refine⟨_,rfl,wpAny_letOwnedTupleGo_zip (s:={ s with heap:=h',toks:=tk }) b1 fun h2 c1 sb=>?_⟩
   have lt:∀{c o},s.heap.get? c=some o->s.heap.objs.size≠c:=fun e=>a9K (zM e)
   have keep:∀b o,b∉[z,TO,i1,i2]->s.heap.get? b=some o->h2.get? b=some o:=fun b o hb e=>by
     simp only[yX,xX,or_false,not_or] at hb
     exact sb.extBut b o hb.1 (hk b o hb.1 hb.2.1 hb.2.2.1 hb.2.2.2 e)
   have sub:∀b∈[z,TO,i1,i2],b∈[z,TI,TO,i1,i2]:=fun b hb=>by
     simp only[yX,xX,or_false] at hb ⊢
     rcases hb with h | h | h | h <;> simp[h]
   have hTz:s.heap.objs.size≠z:=lt a1
   have I1:Inv X pins σ (upd H s.heap.objs.size (.tup [xs[i],ys[i]])) { s with heap:=h2,toks:=tk }:=I.turnedT (t':=tk) (ch:=[z,TO,i1,i2]) keep (fun b hb=>(hf b (sub b hb)).1)
     (fun b hb=>let q:=hf b (sub b hb);⟨q.2.2.2.1,q.2.1,q.2.2.2.2.1,q.2.2.2.2.2⟩) (zR _)
     ⟨by show 2<=sizeLine;decide,[u1,u2],.cons ru (.cons rv .nil),⟨_,sb.extBut _ _ hTz b5,rfl,_,rfl⟩⟩
   refine⟨.ref s.heap.objs.size,_,I1,rfl,⟨s.heap.objs.size,xs[i],ys[i],I.hok.fresh (zR _),rfl,rfl,fun xs' hx'=>?_,fun ys' hy'=>?_⟩,
     ⟨c1,keep _ _ ?_ a2,⟨_,_,sb.extBut _ _ d2 b2⟩,b3.1.extBut sb.extBut d3,b4.1.extBut sb.extBut d4⟩,fun b hb=>?_⟩
   · rw[I.tuple_inj hx' hx];exact zV lx
   · rw[I.tuple_inj hy' hy];exact zV ly
   · simp[d1,d5,d6,d7]
   · have hlt:s.heap.objs.size≠b:=by
       simp only[yX,xX,or_false] at hb
       rcases hb with rfl | rfl | rfl | rfl | rfl
       · exact lt a1
       · exact lt a2
       · exact lt a3
       · obtain⟨o,e,_⟩:=a4;exact lt e
       · obtain⟨o,e,_⟩:=a5;exact lt e
     rw[AG (b1Q hlt)]
     exact(hf b hb).1
 done:=by
   intro X hP hw hK hc i pins s σ H E I hf ⟨a1,a2,⟨x0,y0,a3⟩,a4,a5⟩ hg
   subst hP hw hK
   obtain⟨xs,ys,hx,hy,hle⟩:=hg
   obtain⟨its1,rx,px,_⟩:=I.tuple hx
   obtain⟨its2,ry,py,_⟩:=I.tuple hy
   have ne1:∀c∈[z,TI,TO,i1,i2],l1≠c:=fun c hc=>RX I (hf c hc) hx
   have ne2:∀c∈[z,TI,TO,i1,i2],l2≠c:=fun c hc=>RX I (hf c hc) hy
   have D:ZAp z TI TO i1 i2 [i1,l1] [i2,l2]:=⟨d2,d3,d4,d8,d9,d10,fun c hc=>by
       rcases yX.mp hc with rfl | hc
       · exact⟨d3,d8.symm,d10⟩
       · have:c=l1:=by simpa using hc
         subst this;exact⟨ne1 z (by simp),ne1 TO (by simp),ne1 i2 (by simp)⟩,fun c hc=>by
       rcases yX.mp hc with rfl | hc
       · exact⟨d4,d9.symm,d10.symm⟩
       · have:c=l2:=by simpa using hc
         subst this;exact⟨ne2 z (by simp),ne2 TO (by simp),ne2 i1 (by simp)⟩⟩
   have t1:∀k,EE [i1,l1] (fun h=>h.IsTupleIter i1 l1 k/\h.IsTuple l1 its1.toArray):=fun k h h' ⟨⟨o,e,r⟩,⟨o',e',r'⟩⟩ q=>⟨⟨o,q i1 (by simp) o e,r⟩,⟨o',q l1 (by simp) o' e',r'⟩⟩
   have t2:∀k,EE [i2,l2] (fun h=>h.IsTupleIter i2 l2 k/\h.IsTuple l2 its2.toArray):=fun k h h' ⟨⟨o,e,r⟩,⟨o',e',r'⟩⟩ q=>⟨⟨o,q i2 (by simp) o e,r⟩,⟨o',q l2 (by simp) o' e',r'⟩⟩
   have sub:∀b∈[z,TO,i1,i2],b∈[z,TI,TO,i1,i2]:=fun b hb=>by
     simp only[yX,xX,or_false] at hb ⊢
     rcases hb with h | h | h | h <;> simp[h]
   refine ZC (TI:=TI) (TO:=TO) (i1:=i1) (i2:=i2) (I.ok.hd hc) a1 (fun Q' E' hE' A' hA'=>?_) fun h' tk hk=>⟨rfl,I.turnedL (t':=tk) (ch:=[z,TO,i1,i2]) (fun b o hb e=>?_) (fun b hb=>(hf b (sub b hb)).1) fun b hb=>let q:=hf b (sub b hb);⟨q.2.2.2.1,q.2.1,q.2.2.2.2.1,q.2.2.2.2.2⟩⟩
   · by_cases hxl:i < xs.length
     · obtain⟨u,hu,ru⟩:=rx.get (zV hxl)
       have hyl:its2.toArray[i]?=none:=b9Q (by have:=ry.length;simp;omega)
       exact ZA (R1:=fun x=>x=u) D (t1 i) (t2 i) (W3 (ne1 i1 (by simp)) (by simpa using hu)) (QJ hA' hyl) a1 a2 a3 ⟨a4,px⟩ ⟨a5,py⟩ hE'
     · have hxl':its1.toArray[i]?=none:=b9Q (by have:=rx.length;simp;omega)
       exact Z9 D (t1 i) (QJ hA' hxl') a1 a2 a3 ⟨a4,px⟩ hE'
   · simp only[yX,xX,or_false,not_or] at hb
     exact hk b o hb.1 hb.2.1 hb.2.2.1 hb.2.2.2 e
 self:=fun _ _ _ _ _ st h=>wpAny_pyIter_zip st.1 h
section
variable {X:Cx}{K:Frg}
def kF (K:Frg) (ta:TA):TI:=fun σ H R=>ta σ H fun vs H1=>∃a b,vs=[.ref a,.ref b]/\(∃xs,SqT K H1 a xs)/\(∃ys,SqT K H1 b ys)/\R (qB K a b) H1
theorem kG {a b:Expr}{ta:TA}{p pos:Pos}{elts:List Expr}{kk:Nat}{tpos:Pos}(h:X.K=K) (hg:Gl X "zip") (hm:X.mg "zip"=none) (ha:PA X [a,b] ta) (hs:starEach [a,b] X.env=[(false,eval a X.env),(false,eval b X.env)]:=by rfl) (hs2:starEach [b] X.env=[(false,eval b X.env)]:=by rfl) :
   PI X (.Tuple elts kk tpos) (.Call (.Name "zip" p) [a,b] [] pos) (kF K ta):=by
 subst h
 intro pins s σ H R I h
 refine Call_ (G5 I hg hm boot_zip (xH (thn (ha pos pins s σ H _ I h) fun us s1 ⟨vs,H1,I1,r1,q1⟩=>?_) (by rw[hs,hs2]) (by rw[hs2];rfl)))
 have ne:∀(m n:Nat),m≠n->s1.heap.objs.size+m≠s1.heap.objs.size+n:=fun m n h e=>h (Nat.add_left_cancel e)
 have fp:∀b∈[s1.heap.objs.size+4,s1.heap.objs.size+2,s1.heap.objs.size+3,s1.heap.objs.size,s1.heap.objs.size+1],JW X pins H1 b:=fun b hb=>by
   have hle:s1.heap.objs.size<=b:=by
     simp only[yX,xX,or_false] at hb
     rcases hb with rfl | rfl | rfl | rfl | rfl
     · exact a8Z _ _
     · exact a8Z _ _
     · exact a8Z _ _
     · exact zR _
     · exact a8Z _ _
   exact I1.fpOk hle (I1.hok.fresh hle)
 obtain⟨l1,l2,rfl,⟨xs,hx⟩,⟨ys,hy⟩,q⟩:=q1
 cases r1 with
 | cons r rr=>
   cases rr with
   | cons r' rr=>
     cases rr;cases r';cases r
     obtain⟨its1,rx,px,_⟩:=I1.tuple hx
     obtain⟨its2,ry,py,_⟩:=I1.tuple hy
     refine ZD (XN (t:=l1) (items:=its1.toArray)) (XN (t:=l2) (items:=its2.toArray)) (fun h o q=>q.push o) rfl rfl px py fun h' b1 b2 b3 b4 b5 hk=>?_
     refine wpAny_pyIter_zip (s:={ s1 with heap:=h' }) b1 ?_
     exact⟨s1.heap.objs.size+4,[s1.heap.objs.size+4,s1.heap.objs.size+2,s1.heap.objs.size+3,s1.heap.objs.size,s1.heap.objs.size+1],_,_,H1,rfl,I1.kept (t':=s1.toks) hk,
       WP (s1.heap.objs.size+4) (s1.heap.objs.size+2) (s1.heap.objs.size+3) s1.heap.objs.size (s1.heap.objs.size+1) l1 l2 (ne 2 4 (by decide)) (ne 3 4 (by decide)) (ne 0 4 (by decide)) (ne 1 4 (by decide)) (ne 2 3 (by decide)) (ne 2 0 (by decide)) (ne 2 1 (by decide)) (ne 3 0 (by decide)) (ne 3 1 (by decide)) (ne 0 1 (by decide)),
       ⟨b1,b2,⟨_,_,b3⟩,⟨_,b4,rfl,rfl⟩,⟨_,b5,rfl,rfl⟩⟩,fp,q⟩
end
end L2
namespace DL
open PySem PySem.Spec L2
section
variable {K:Frg}{ρ:List (Option DS)}{M:Own}{QI:List PyData->Own->Prop}
theorem Y5 {ta:TA}(h:DA K ta ρ M fun xs M1=>∃as bs,xs=[.d (.tuple as),.d (.tuple bs)]/\QI (P2 as bs) M1):DI K (kF K ta) ρ M QI:=fun σ H R Rl k=>
 h σ H _ Rl fun vs H1 xs M1 o1 s1 t1 ⟨as,bs,e,q⟩=>by
   subst e
   obtain⟨v,r,rfl,h1,v2,r2,rfl,h2,h3⟩:=s1
   cases h3
   unfold SI DV at h1 h2
   obtain⟨a,va,rfl,hl1,hd1⟩:=h1
   obtain⟨b,vb,rfl,hl2,hd2⟩:=h2
   have hlen:(P2 as bs).length=min as.length bs.length:=by unfold P2;rw[zX,b4Z]
   refine⟨a,b,rfl,⟨va,hl1.sq⟩,⟨vb,hl2.sq⟩,k _ (P2 as bs) H1 M1 o1 t1 ⟨fun i H' M' hi oa st=>?_,fun H' M' oa st=>?_,fun i H' M' x H2 oa st hi y=>?_⟩ q⟩
   · rw[hlen] at hi
     exact⟨va,vb,(hl1.grow st.grow).sq,(hl2.grow st.grow).sq,by rw[hd1.length];omega,by rw[hd2.length];omega⟩
   · refine⟨va,vb,(hl1.grow st.grow).sq,(hl2.grow st.grow).sq,?_⟩
     rw[hlen,hd1.length,hd2.length];omega
   · obtain⟨p,xa,xb,hp,rfl,rfl,hx,hy⟩:=y
     obtain⟨da,f1,f2⟩:=hd1.get (hx va (hl1.grow st.grow).sq)
     obtain⟨db,g1,g2⟩:=hd2.get (hy vb (hl2.grow st.grow).sq)
     have gg:Grow K M'.W M'.W H' (upd H' p (.tup [xa,xb])):=AR _ hp
     refine⟨oa.new hp,⟨gg⟩,.tuple [da,db],?_,?_⟩
     · unfold P2
       rw[zF]
       have:(as.zip bs)[i]?=some (da,db):=by rw[b6V];exact⟨f1,g1⟩
       rw[this];rfl
     · unfold DV
       exact⟨p,_,rfl,.inl ⟨fun w=>w (oa.none hp),.inl AE⟩,DVs.cons ((f2.grow st.grow).grow gg) (DVs.cons ((g2.grow st.grow).grow gg) DVs.nil)⟩
end
end DL
namespace L2
open PySem PySem.Spec PyProof.Rows
def kH (cE tg iter:Expr) (ifs:List Expr) (dp:Nat) (em:Sem Fin->Sem Fin) (it acc:Value) (env:Env):Sem Fin:=do
 standAt iter.pos
 match ← pyNext it with
 | none=>pure (.done .next)
 | some v=>
   letOwnedTupleGo tg it v
   assign tg env v
   let mut ok:=true
   for c in ifs do
     if ok then ok ← isTrue c env (eval c env)
   if ok then em (again (.compLoop cE dp it acc env)) else again (.compLoop cE dp it acc env)
def eI (prog:Program) (w:World) (A:Around) (cE target:Expr) (ifs:List Expr) (dp:Nat) (tl:Env->Addr->(Shared->Prop)->Shared->Prop):Prop:=
 ∀(it D:Addr) (env:Env) (R:Result->Shared->Prop) (I:Nat->Shared->Prop),(∀n s,I n s->wpAny (model prog w) A (pyNext (.ref it)) (fun r s₁=>match r with
     | none=>R (.ok .next) s₁
     | some v=>wpAny (model prog w) A (letOwnedTupleGo target (.ref it) v) (fun _ s₀=>wpAny (model prog w) A (assign target env v) (fun _ s₂=>
         wpAny (model prog w) A (JK ifs env) (fun ok s₃=>if ok=true then tl env D (fun s'=>∃m,m < n/\I m s') s₃ else ∃m,m < n/\I m s₃) (fun _ _=>False) s₂) (fun _ _=>False) s₀) (fun _ _=>False) s₁) (fun _ _=>False) s) ->
   ∀n s,I n s->codeAny (model prog w) A (.compLoop cE dp (.ref it) (.ref D) env) R s
theorem eJ {prog:Program}{w:World}{A:Around}{elt target iter:Expr}{gens:List Comprehension}{ifs:List Expr}{scope:Scope}{pos:Pos}{dp:Nat}{em:Addr->Env->Sem Fin->Sem Fin}{tl:Env->Addr->(Shared->Prop)->Shared->Prop}
   (he:∀it D env,compTurn (.ListComp elt gens scope pos) dp (.ref it) (.ref D) env=kH (.ListComp elt gens scope pos) target iter ifs dp (em D env) (.ref it) (.ref D) env)
   (hem:∀env D P s k Q E,tl env D P s->(∀s',P s'->wpAny (model prog w) A k Q E s')->wpAny (model prog w) A (em D env k) Q E s):eI prog w A (.ListComp elt gens scope pos) target ifs dp tl:=by
 intro it D env R I turn n s h
 refine codeAny_loop rfl I (fun n s hI=>?_) n h
 show wpAny _ A ((compTurn (.ListComp elt gens scope pos) dp (.ref it) (.ref D) env).onRaise (fun x=>do noteFrame x env;theTreesLotGoes x)) _ _ s
 refine wpAny_noted ?_
 rw[he]
 unfold kH
 refine zZ (wpAny_standAt (zZ (wpAny_mono (AI (turn n s hI)) (fun r s₁ h₁=>?_) fun _ _ h'=>h')))
 cases r with
 | none=>exact zY h₁
 | some v=>
   refine zZ (wpAny_mono (AI h₁) (fun _ s₀ h₀=>?_) fun _ _ h'=>h')
   refine zZ (wpAny_mono (AI h₀) (fun _ s₂ h₂=>zZ (wpAny_mono (AI h₂) (fun ok s₃ h₃=>?_) fun _ _ h'=>h')) fun _ _ h'=>h')
   cases ok with
   | false=>exact zY ⟨rfl,h₃⟩
   | true=>exact hem _ _ _ _ _ _ _ h₃ fun s₄ h₄=>zY ⟨rfl,h₄⟩
def tlC (prog:Program) (w:World) (A:Around) (cE iter1:Expr):Env->Addr->(Shared->Prop)->Shared->Prop:=fun env D P s=>
 wpAny (model prog w) A (eval iter1 env) (fun x s₁=>wpAny (model prog w) A (pyIter x) (fun it s₂=>codeAny (model prog w) A (.compStart cE 1 it (.ref D) env) (fun r s'=>match r with | .ok _=>P s' | .error _=>False) s₂) (fun _ _=>False) s₁) (fun _ _=>False) s
section
variable {prog:Program}{w:World}{A:Around}{elt tg iter tg1 iter1:Expr}{scope:Scope}{pos:Pos}
theorem nT (hs:∀env x,foldedSetIterable iter1 env x=pure x):RF prog w A (.ListComp elt [⟨tg,iter,[],0⟩,⟨tg1,iter1,[],0⟩] scope pos) tg [] (tlC prog w A (.ListComp elt [⟨tg,iter,[],0⟩,⟨tg1,iter1,[],0⟩] scope pos) iter1):=by
 refine eJ (iter:=iter) (dp:=0) (em:=fun D env k=>do
           let x ← eval iter1 env
           standAt iter1.pos
           let x ← foldedSetIterable iter1 env x
           let _ ← runOwn (.compStart (.ListComp elt [⟨tg,iter,[],0⟩,⟨tg1,iter1,[],0⟩] scope pos) 1 (← holding [x] (pyIter x)) (.ref D) env) env
           k) (fun it D env=>rfl) fun env D P s k Q E h hk=>?_
 refine zZ (thn (AI h) fun x s₁ h₁=>zZ (wpAny_standAt (zZ (wpAny_of_eq (hs env x) (zZ (wpAny_holding (thn (AI h₁) fun it s₂ h₂=>?_)))))))
 refine zZ (wpAny_runOwn (codeAny_mono h₂ fun r s' hr=>?_))
 cases r with
 | ok f=>exact hk _ hr
 | error e=>exact hr.elim
theorem eL:eI prog w A (.ListComp elt [⟨tg,iter,[],0⟩,⟨tg1,iter1,[],0⟩] scope pos) tg1 [] 1 (tlL prog w A elt):=by
 refine eJ (iter:=iter1) (em:=fun D env k=>(do let _ ← call (.builtin "list.append") [.ref D,← eval elt env]) >>= fun _=>k) (fun it D env=>rfl) fun env D P s k Q E h hk=>?_
 exact zZ (zZ (thn (AI h) fun x s₄ h₄=>zZ (thn (AI h₄) fun _ s₅ h₅=>zY (hk _ h₅))))
theorem ZW {it acc:Value}{env:Env}{R:Result->Shared->Prop}{s:Shared}
   (h0:codeAny (model prog w) A (.compLoop (.ListComp elt [⟨tg,iter,[],0⟩,⟨tg1,iter1,[],0⟩] scope pos) 1 it acc env) R s)
   (h:wpAny (model prog w) A (pyIter it) (fun it' s'=>codeAny (model prog w) A (.compLoop (.ListComp elt [⟨tg,iter,[],0⟩,⟨tg1,iter1,[],0⟩] scope pos) 1 it' acc env) R s') (notedBy (model prog w) A env fun x s'=>R (.error x) s') s) :
   codeAny (model prog w) A (.compStart (.ListComp elt [⟨tg,iter,[],0⟩,⟨tg1,iter1,[],0⟩] scope pos) 1 it acc env) R s:=by
 refine codeAny_of_tree ?_
 show wpAny _ _ ((compStart (.ListComp elt [⟨tg,iter,[],0⟩,⟨tg1,iter1,[],0⟩] scope pos) 1 it acc env).onRaise (fun x=>do noteFrame x env;standAt theWindowsPlace)) _ _ s
 refine wpAny_notedAt ?_
 unfold compStart
 show wpAny _ _ (ask >>= _) _ _ s
 refine zZ (wpAny_askSetting (wpAny_ite ?_))
 split
 · first
     | exact zZ (zY (zY (And.intro rfl h0)))
     | exact zY (And.intro rfl h0)
 · first
     | exact zZ (wpAny_rule (zZ (wpAny_standAt (zZ (wpAny_mono h (fun it' s' h'=>zY (And.intro rfl h')) fun _ _ x=>x)))))
     | (refine zZ (wpAny_rule ?_);show wpAny _ _ (standAt iter1.pos >>= _) _ _ s;exact zZ (wpAny_standAt (zZ (wpAny_mono h (fun it' s' h'=>zY (And.intro rfl h')) fun _ _ x=>x))))
end
def nU (wi1:TI) (g1:TG) (te:TE):Addr->Nat->(Nat->List V->Hp->Prop)->St->Hp->Prop:=fun D n W σ H=>wi1 σ H fun J H1=>∃W2:Nat->Nat->Hp->Prop,(∃m,W2 0 m H1) /\
 ∀i m H2,W2 i m H2->(J.stop i H2/\∃m' ys,m' < n/\W m' ys H2)∨(J.go i H2/\∀x H3,J.yld i H2 x H3->g1 x σ H3 fun σ2 H4=>
   (∀(i:Nat) v,σ[i]?=some (some v)->σ2[i]?=some (some v))/\te σ2 H4 fun y H6=>∃ys',H6 D=some (.lst ys')/\ys'.length < sizeLine/\∃m',m' < m/\W2 (i+1) m' (upd H6 D (.lst (ys'++[y]))))
def eO (fr:List (Option Nat)) (wi:TI) (g:TG) (wi1:TI) (g1:TG) (te:TE):TE:=jV fr wi g gG [] .lst (nU wi1 g1 te)
section
variable {X:Cx}{scope:Scope}{NC:List Str}{fr:List (Option Nat)}{elt iter tg iter1 tg1:Expr}{pos:Pos}{wi wi1:TI}{g g1:TG}{te:TE}
theorem ZX {Y:Cx}(hx:Y.xe=fun _ _=>False) (hc:Y.calm=true) (hi:PI Y tg1 iter1 wi1) (hg:PG Y tg1 g1) (he:PE Y elt te) {pn:List (Addr×Obj)}{s:Shared}{σ:St}{H:Hp}{D:Addr}{n:Nat}{W:Nat->List V->Hp->Prop}{P:Shared->Prop}
   (I:Inv Y pn σ H s) (q:nU wi1 g1 te D n W σ H) (k:∀m y H2 s2,m < n->W m y H2->Inv Y pn σ H2 s2->P s2):tlC Y.prog Y.w Y.A (.ListComp elt [⟨tg,iter,[],0⟩,⟨tg1,iter1,[],0⟩] scope pos) iter1 Y.env D P s:=by
 have hi':=hi pn s σ H _ I q
 rw[hx] at hi'
 refine thn hi' fun v s1 h1=>thn h1 fun itv s2 h2=>?_
 obtain⟨it,fp,tn,J,H2,e,I2,T,st2,f2,W2,⟨m0,w0⟩,turn⟩:=h2
 subst e
 have stat:∀{H':Hp},(∀b∈fp,H' b=none)->∀b∈fp,JW Y pn H' b:=fun hn b hb=>⟨hn b hb,(f2 b hb).2⟩
 have loop:codeAny (model Y.prog Y.w) Y.A (.compLoop (.ListComp elt [⟨tg,iter,[],0⟩,⟨tg1,iter1,[],0⟩] scope pos) 1 (.ref it) (.ref D) Y.env) (fun r s'=>match r with | .ok _=>P s' | .error _=>False) s2:=by
   refine eL _ _ _ _ (fun n s'=>∃i H',Inv Y pn σ H' s'/\tn i s'.heap/\(∀b∈fp,H' b=none)/\W2 i n H') ?_ m0 _ ⟨0,_,I2,st2,fun b hb=>(f2 b hb).1,w0⟩
   rintro n s3 ⟨i,H3,I3,st3,fr3,w3⟩
   rcases turn i n H3 w3 with ⟨stop,m',ys,hm,wn⟩ | ⟨go,step⟩
   · refine thn (T.done Y rfl rfl rfl hc i pn s3 σ H3 _ I3 (stat fr3) st3 stop) fun r s4 ⟨hr,I4⟩=>?_
     subst hr
     exact k m' ys H3 s4 hm wn I4
   · refine thn (T.item Y rfl rfl rfl hc i pn s3 σ H3 _ I3 (stat fr3) st3 go) fun r s4 ⟨u,hr,h4⟩=>?_
     subst hr
     refine thn h4 fun _ s5 ⟨x,H5,I5,r5,y5,st5,fr5⟩=>?_
     have I5':=I5.pinned (stat fr5) (T.obj _ _ st5)
     have hg1:=hg _ s5 σ H5 x u _ I5' r5 (step x H5 y5)
     rw[hx] at hg1
     refine thn hg1 fun _ s6 ⟨σ6,H6,I6,ext6,q6⟩=>?_
     refine wpAny_tests_nil (if_pos rfl▸?_)
     have he1:=he _ s6 σ6 H6 _ I6 q6
     rw[hx] at he1
     refine thn he1 fun y s7 ⟨yv,H7,I7,r7,ys',hD,hsz,m',hm',w'⟩=>?_
     have ha:=KY _ s7 σ6 H7 (.ref D) [yv] (.ref D) [y] (fun _ H'=>∃m',m' < n/\W2 (i+1) m' H') I7 rfl (.cons r7 .nil) ⟨_,ys',yv,rfl,rfl,hD,hsz,m',hm',w'⟩
     rw[hx] at ha
     refine thn ha fun _ s8 ⟨_,H8,I8,_,m'',hm'',w''⟩=>?_
     refine⟨m'',hm'',i+1,H8,I8.unpinned.weak (by rw[I8.len,I.len]) ext6,T.keep _ _ _ st5 fun b hb o e=>(I8.pin (b,o) (zB _ (zB _ (CU hb e)))).1,fun b hb=>?_,w''⟩
     obtain⟨o,e,d⟩:=T.obj _ _ st5 b hb
     exact(I8.pin (b,o) (zB _ (zB _ (CU hb e)))).2.1
 exact ZW loop (T.self _ 0 _ _ _ st2 loop)
theorem eQ (hc:X.calm=true) (S:CSc X scope NC fr) (hi:PI X tg iter wi)
   (hb:∀(C:Addr) (s:Shared) (H:Hp) (ex:List Addr) (pn:List (Addr×Obj)),PG (AO X scope NC C s H ex pn) tg g/\PI (AO X scope NC C s H ex pn) tg1 iter1 wi1/\PG (AO X scope NC C s H ex pn) tg1 g1/\PE (AO X scope NC C s H ex pn) elt te)
   (hs:∀x,foldedSetIterable iter X.env x=pure x:=by intro _;rfl) (hs1:∀env x,foldedSetIterable iter1 env x=pure x:=by intro _ _;rfl):PE X (.ListComp elt [⟨tg,iter,[],0⟩,⟨tg1,iter1,[],0⟩] scope pos) (eO fr wi g wi1 g1 te):=by
 intro pins s σ H Q I h
 rw[eval_ListComp]
 refine L0 (use:=none) (Q:=Q) (y0:=[]) (at_:=.lst) (Ty:= "list") (dt:=.seq #[]) (tl:=tlC X.prog X.w X.A (.ListComp elt [⟨tg,iter,[],0⟩,⟨tg1,iter1,[],0⟩] scope pos) iter1) (el:=nU wi1 g1 te) rfl rfl (by size_fits) (fun H h _=>⟨xT _,[],0,.nil,yZ _ rfl⟩) (nT hs1) codeAny_compStart_list hc S hi (fun C s H ex pn=>⟨(hb C s H ex pn).1,X9,fun pn' s' σ H' D n W P I q k=>?_⟩) I h (fun D C H' s' m oC I' hn q back _ h' sb=>?_) hs
 · exact ZX (Y:=AO X scope NC C s H ex pn) rfl hc (hb C s H ex pn).2.1 (hb C s H ex pn).2.2.1 (hb C s H ex pn).2.2.2 I q k
 · exact⟨.ref D,H',back pins σ H' s' h' I' sb,rfl,q⟩
end
end L2
namespace DL
open PySem PySem.Spec L2
theorem ZY {α β:Type}(F:α->List β) {l:List α}{i:Nat}{d:α}(h:l[i]?=some d):(l.take (i+1)).flatMap F=(l.take i).flatMap F++F d:=by
 rw[a4Z,h,List.flatMap_append];simp
theorem eR {α β:Type}(F:α->List β) (l:List α) (i:Nat):((l.take i).flatMap F).length<=(l.flatMap F).length:=by
 have e:(l.take i).flatMap F++(l.drop i).flatMap F=l.flatMap F:=by rw[← List.flatMap_append,a9Q]
 rw[← e,yY];exact a8Z _ _
section
variable {K:Frg}{ρ:List (Option DS)}{M:Own}{wi wi1:TI}{g g1:TG}
theorem Y6 {N:Own}{A:Addr}:(N.del A).Sub N:=fun b o q=>by
 unfold Own.del at q
 by_cases hb:b=A
 · rw[if_pos hb] at q;cases q
 · rw[if_neg hb] at q;exact q
theorem eT {fr:List (Option Nat)}{te:TE}{T T1:List Nat}{Q:DS->Own->Prop}(ho:HK g T) (hT:∀i∈T,∀j,fr[i]?≠some (some j)) (ho1:HK g1 T1) (hT1:∀i∈T1,i∉T/\∀j,fr[i]?≠some (some j))
   (h:DI K wi ρ M fun ds M1=>∃(f1:PyData->List PyData) (f:PyData->PyData->PyData),(ds.flatMap fun d=>(f1 d).map (f d)).length < sizeLine/\(∀d∈ds,∀M',DG K g d (EB fr ρ) M' fun ρ2 M2=>M2=M'/\DI K wi1 ρ2 M2 fun es M3=>M3=M'/\es=f1 d/\∀e∈es,∀M',DG K g1 e ρ2 M' fun ρ3 M4=>M4=M'/\DE K te ρ3 M4 fun y M5=>y = .d (f d e)/\M5=M')/\Q (.d (.list (ds.flatMap fun d=>(f1 d).map (f d)))) M1) :
   DE K (eO fr wi g wi1 g1 te) ρ M Q:=fun σ H QQ R k=>
 h σ H _ R fun J ds H1 M1 o1 t1 wd ⟨f1,f,hsz,he,q⟩=>by
   intro A hA
   obtain⟨oA,sA⟩:=MX o1 hA (DVs.nil (K:=K) (H:=H1) (W:=M1.W))
   generalize hF:(fun d=>(f1 d).map (f d))=F at hsz q
   refine⟨fun i m ys H2=>m=ds.length - i/\i<=ds.length/\H2 A=some (.lst ys)/\OA K H2 (M1.put A (.l ((ds.take i).flatMap F)))/\Step K M1 (M1.put A (.l ((ds.take i).flatMap F))) H1 H2,⟨_,rfl,xT _,AE,oA,sA⟩,?_⟩
   rintro i m ys H2 ⟨rfl,hi,hys,oa,st⟩
   refine⟨hys,?_⟩
   by_cases hlt:i < ds.length
   · refine .inr ⟨wd.go i H2 _ hlt oa st,fun x H3 y=>?_⟩
     obtain⟨oa3,st3,d,e1,e2⟩:=wd.yld i H2 _ x H3 oa st hlt y
     have Rc:Rel K _ (EB fr ρ) (L2.capt fr σ) H3:=((R.step o1 t1).step oa3 (st.trans st3)).capt
     refine ho _ _ _ _ (he d (yN e1) _ (L2.capt fr σ) H3 x _ Rc e2 fun ρ3 M3 σ3 H4 R3 st4 ⟨eM,b3⟩ hext=>⟨fun i' v' hv'=>?_,?_⟩)
     · obtain⟨j,f1,f2⟩:=CW hv'
       rw[hext i' fun hm=>hT i' hm j f1]
       exact hv'
     · subst eM
       unfold gG
       refine L2.YT ?_
       refine b3 σ3 H4 _ R3 fun J1 es H5 M5 o5 t5 wd1 ⟨eM5,ees,hin⟩=>?_
       subst eM5
       have hFd:F d=es.map (f d):=by rw[← hF,ees]
       have hnx:=ZY F e1
       have hln:((ds.take i).flatMap F).length+es.length < sizeLine:=by
         have:=eR F ds (i+1)
         rw[hnx,yY,hFd,zX] at this
         omega
       refine⟨fun j m H6=>m=es.length - j/\j<=es.length/\OA K H6 (M1.put A (.l ((ds.take i).flatMap F++(es.take j).map (f d))))/\Step K (M1.put A (.l ((ds.take i).flatMap F))) (M1.put A (.l ((ds.take i).flatMap F++(es.take j).map (f d)))) H5 H6,⟨_,rfl,xT _,by simpa using o5,by simpa using Step.refl⟩,?_⟩
       rintro j m H6 ⟨rfl,hj,oa6,st6⟩
       by_cases hjl:j < es.length
       · refine .inr ⟨wd1.go j H6 _ hjl oa6 st6,fun x1 H7 y1=>?_⟩
         obtain⟨oa7,st7,e,g1',g2'⟩:=wd1.yld j H6 _ x1 H7 oa6 st6 hjl y1
         have R7:Rel K _ ρ3 σ3 H7:=R3.step oa7 ((t5.trans st6).trans st7)
         refine ho1 _ _ _ _ (hin e (yN g1') _ σ3 H7 x1 _ R7 g2' fun ρ4 M8 σ4 H8 R8 st8 ⟨eM8,b8⟩ hext1=>⟨fun i' v' hv'=>?_,?_⟩)
         · rw[hext1 i' fun hm=>?_]
           · exact hv'
           · obtain⟨hn,hc⟩:=hT1 i' hm
             rw[hext i' hn] at hv'
             obtain⟨j',q1',_⟩:=CW hv'
             exact hc j' q1'
         · subst eM8
           refine b8 σ4 H8 _ R8 fun y H9 z M9 o9 s9 st9 ⟨ez,eM9⟩=>?_
           subst ez eM9
           obtain⟨vs,q1,q2⟩:=o9 A _ zU
           obtain⟨w1,w2⟩:=FH o9 zU (q2.append (DVs.cons s9 DVs.nil))
           rw[yI] at w1 w2
           have e3:(ds.take i).flatMap F++(es.take j).map (f d)++[f d e]=(ds.take i).flatMap F++(es.take (j+1)).map (f d):=by
             rw[a4Z,g1',a7X];simp
           rw[e3] at w1 w2
           refine⟨vs,q1,?_,es.length - (j+1),by omega,rfl,hjl,w1,(((st6.trans st7).trans st8).trans st9).trans w2⟩
           rw[q2.length,yY,zX,a2X]
           omega
       · have e:j=es.length:=by omega
         subst e
         obtain⟨vs,q1,q2⟩:=oa6 A _ zU
         rw[a3X,← hFd,← hnx] at oa6 st6
         exact .inl ⟨wd1.stop H6 _ oa6 st6,ds.length - (i+1),vs,by omega,rfl,hlt,q1,oa6,(((st.trans st3).trans st4).trans t5).trans st6⟩
   · have e:i=ds.length:=by omega
     subst e
     refine .inl ⟨wd.stop H2 _ oa st,?_⟩
     obtain⟨vs,q1,q2⟩:=oa A _ zU
     have e4:=yG (o:=.l ((ds.take ds.length).flatMap F)) (o1.none hA)
     have hst:Step K (M1.put A (.l ((ds.take ds.length).flatMap F))) M1 H2 H2:=by
       have:=(⟨B1 (Y6 (N:=M1.put A (.l ((ds.take ds.length).flatMap F))) (A:=A))⟩:Step K _ _ H2 H2)
       rwa [e4] at this
     have hoa:OA K H2 M1:=by
       have:=oa.sub (Y6 (A:=A))
       rwa [e4] at this
     refine k _ H2 (.d (.list (ds.flatMap F))) M1 hoa ?_ ((t1.trans st).trans hst) q
     unfold SI DV
     rw[a3X] at q2 hst
     exact⟨A,vs,rfl,.inl ⟨fun w=>w (o1.none hA),.inl q1⟩,q2.grow hst.grow⟩
end
end DL
namespace L2
open PySem PySem.Spec PyProof.Rows
section
variable {X:Cx}
def UR (te:TE):TE:=fun σ H Q=>te σ H fun v H1=>∃a kvs,v = .ref a/\Rd H1 a (.dK kvs)/\∀p,H1 p=none->Q (.ref p) (upd H1 p (.lst (kvs.map (·.2))))
theorem WQ {o:Expr}{te:TE}{ap vp pos mp:Pos}(hh:X.A.handled=none) (hg2:Gl X "list") (hm2:X.mg "list"=none) (he:PE X o te)
   (hs:starEach [.Call (.Attribute o "values" ap) [] [] vp] X.env=[(false,eval (.Call (.Attribute o "values" ap) [] [] vp) X.env)]:=by rfl)
   (hbase:attributeBase o "values" X.env (eval o X.env)=eval o X.env:=by rfl) (hline:(ap.endLine==vp.line)=true:=by rfl) :
   PE X (.Call (.Name "list" mp) [.Call (.Attribute o "values" ap) [] [] vp] [] pos) (UR te):=by
 intro pins s σ H Q I h
 refine wpAny_Call_Name_kw (G5 I hg2 hm2 b5K ?_)
 refine xH ?_ hs rfl
 rw[hs]
 refine(show wpAny _ _ (spliced ((false,eval (.Call (.Attribute o "values" ap) [] [] vp) X.env)::backTo pos (starEach [] X.env))) _ _ _ from xP ?_)
 refine wpAny_Call_method0_late hbase hline (thn (he pins s σ H _ I h) fun v s1 ⟨x,H1,I1,r1,a,kvs,ex,rd,q⟩=>?_)
 subst ex
 obtain rfl:v=a0X a:=r1
 obtain⟨t1,t2,_⟩:=bD I1 (.inl ⟨kvs,rd⟩)
 refine⟨_,_,b7X,PySem.F.slot_dict_values,PySem.F.type_dict_values,t1,t2,b2J rfl (PySem.evalArgs_none ?_)⟩
 obtain⟨z,lo,vs,rel,dd⟩:=IU I1.hok rd
 refine call_meetsIn PySem.F.slot_dict_values dd.typeIs PySem.F.entry_dict_values (PySem.F.args_dict_values_1 _) (meets_dict_values (AK X.prog X.w) a lo) ⟨⟨vs,dd⟩,?_⟩
 refine(show wpAny _ _ (spliced []) _ _ _ from zY ?_)
 obtain⟨ep,hat⟩:=dd.dictAt
 have I2:Inv X pins σ H1 { s1 with heap:=s1.heap.push { cls:=.type "dict_values", data:=.fields #[.ref a] } }:=I1.kept (t':=s1.toks) fun b o e=>zW _ e
 have hlen:vs.length=kvs.length:=rel.length.symm
 refine PySem.W.kdl_call (PySem.W.kdl_values (knd:=AK X.prog X.w) (kvs:=vs) (ep:=ep) (d:=a) (r:=s1.heap.objs.size)) hh ⟨⟨_,yZ _ rfl,rfl,rfl⟩,hat.push _⟩ (by rw[hlen];exact z) fun h' tk acc c hk ho hacc=>?_
 have hv:Vals (kvs.map (·.2)) acc.toList:=by
   have e:=PySem.W.kdl_vals_eq (kvs:=vs) acc.toList (by rw[a4Q];exact hacc.1) fun j v e=>hacc.2 j v (by rw[← a5X];exact e)
   rw[e]
   clear e hacc ho hk hat dd z rd q hlen
   induction rel with
   | nil=>exact .nil
   | cons h _ ih=>exact .cons h.2 ih
 have I3:Inv X pins σ (upd H1 (s1.heap.push { cls:=.type "dict_values", data:=.fields #[.ref a] }).objs.size (.lst (kvs.map (·.2)))) { s1 with heap:=h',toks:=tk }:=
   I2.laid (t':=tk) hk (zR _) (show ObjOk X.prog X.w _ _ _ (.lst _) from ⟨by rw[zX];exact z,acc.toList,c,hv,by simpa using ho⟩)
 exact⟨.ref _,_,I3,rfl,q _ (I2.hok.fresh (zR _))⟩
end
end L2
namespace DL
open PySem PySem.Spec L2
section
variable {K:Frg}{ρ:List (Option DS)}{M:Own}{Q:DS->Own->Prop}{H:Hp}{W:Addr->Prop}
theorem US:∀{kvs:List (PyData×PyData)}{ks:List (Key×V)},DKV K H W kvs ks->DVs K H W (kvs.map (·.2)) (ks.map (·.2))
 | [],ks,h=>by unfold DKV at h;subst h;exact DVs.nil
 | (k,d)::r,ks,h=>by
   unfold DKV at h
   obtain⟨k',v,r',rfl,_,h1,h2⟩:=h
   exact DVs.cons h1 (US h2)
theorem OE {te:TE}(h:DE K te ρ M fun x M1=>∃a kvs,x = .loc a/\M1 a=some (.d kvs)/\Q (.d (.list (kvs.map (·.2)))) M1):DE K (UR te) ρ M Q:=fun σ H QQ Rl k=>
 h σ H _ Rl fun v H1 x M1 o1 s1 t1 ⟨a,kvs,ex,m,q⟩=>by
   subst ex
   unfold SI at s1
   obtain⟨ks,e1,e2⟩:=o1 a _ m
   refine⟨a,ks,s1,.inl e1,fun p hp=>?_⟩
   have g:Grow K M1.W M1.W H1 (upd H1 p (.lst (ks.map (·.2)))):=AR _ hp
   refine k _ _ (.d (.list (kvs.map (·.2)))) M1 (o1.new hp) ?_ (t1.trans ⟨g⟩) q
   unfold SI DV
   exact⟨p,_,rfl,.inl ⟨fun w=>w (o1.none hp),.inl AE⟩,(US e2).grow g⟩
end
end DL
namespace L2
open PySem PySem.Spec PyProof.Rows
section
variable {X:Cx}{e el eh st:Expr}{te tl th ts:TE}{pos p2:Pos}
theorem LE {xs:List V}{us:List Value}(r:Vals xs us):∀κ:List Nat,Vals (κ.filterMap fun i=>xs[i]?) (κ.filterMap fun i=>us[i]?)
 | []=>.nil
 | k::κ=>by
   rw[a1V,a1V]
   cases e:xs[k]? with
   | none=>
     have:us[k]?=none:=by
       rw[List.getElem?_eq_none_iff] at e ⊢
       rw[← r.length];exact e
     rw[this]
     exact LE r κ
   | some x=>
     obtain⟨u,h1,h2⟩:=r.get e
     rw[h1]
     exact .cons h2 (LE r κ)
end
end L2
namespace DL
open PySem PySem.Spec L2
section
variable {K:Frg}{ρ:List (Option DS)}{M:Own}{Q:DS->Own->Prop}{te tl th ts:TE}
theorem OF {H:Hp}{W:Addr->Prop}{ds:List PyData}{vs:List V}(h:DVs K H W ds vs):∀κ:List Nat,DVs K H W (κ.filterMap fun i=>ds[i]?) (κ.filterMap fun i=>vs[i]?)
 | []=>DVs.nil
 | k::κ=>by
   rw[a1V,a1V]
   cases e:vs[k]? with
   | none=>
     have:ds[k]?=none:=by
       rw[List.getElem?_eq_none_iff] at e ⊢
       rw[← h.length];exact e
     rw[this]
     exact OF h κ
   | some x=>
     obtain⟨d,h1,h2⟩:=h.get e
     rw[h1]
     exact DVs.cons h2 (OF h κ)
end
end DL
namespace HT
open PySem PySem.Spec PyProof.Rows
def st2 (n:Nat):List Nat:=(a0J (a1X 0 (n:Int) 2)).map fun m:Nat=>((0:Int)+(m:Int)*2).toNat
theorem st2_len (n:Nat):(st2 n).length<=n:=by
 unfold st2 a1X
 rw[zX,xZ]
 have h1:((2:Int) > 0):=by omega
 simp only[h1,if_true]
 split <;> omega
section
variable {prog:Program}{w:World}{A:Around}{E:Value->Shared->Prop}{s:Shared}
theorem LF {sl:Addr}{t:Tok}{n:Nat}{Q:Int×Int×Nat->Shared->Prop}(hs:s.heap.IsSliceOf sl .none .none (.int 2 t))
   (h:Q (0,2,a1X 0 (n:Int) 2) s):wpAny (model prog w) A (a7V (.ref sl) (pure (n:Int))) Q E s:=by
 obtain⟨os,hos,hcs,hds⟩:=id hs
 unfold a7V Builtin.Slice.sliceFields
 refine zZ (zZ (wpAny_field hos hds (x:=.none) rfl (zZ (wpAny_field hos hds (x:=.none) rfl (zZ (wpAny_field hos hds (x:=.int 2 t) rfl (zY ?_)))))))
 refine zZ (slicePart_int ?_)
 show wpAny _ _ (if ((2:Int)==0)=true then _ else _) _ _ s
 rw[if_neg (by decide)]
 refine zZ (slicePart_none (zZ (slicePart_none (zZ (zY ?_)))))
 show wpAny _ _ (match a6Z none none 2 (n:Int) with | (lo,hi)=>pure (lo,(2:Int),a1X lo hi 2)) _ _ s
 rw[show a6Z none none 2 (n:Int)=(0,(n:Int)) from rfl]
 exact zY h
theorem getItem_tuple_st2 {t sl:Addr}{items:Array Value}{u:Tok}{Q:Value->Shared->Prop}(ht:IsTup s.heap t items) (hs:s.heap.IsSliceOf sl .none .none (.int 2 u))
   (h:Q (.ref s.heap.objs.size) { s with heap:=s.heap.push { cls:=.type "tuple", data:=.seq ((st2 items.size).filterMap fun i=>items[i]?).toArray } })
   (hsz:items.size<=sizeLine):wpAny (model prog w) A (getItem (.ref t) (.ref sl)) Q E s:=by
 have htake:sizeOk (.seq ((st2 items.size).filterMap fun i=>items[i]?).toArray):=by
   show((st2 items.size).filterMap fun i=>items[i]?).toArray.size<=sizeLine
   rw[zJ]
   exact zN (b7K _ _) (zN (st2_len _) hsz)
 obtain⟨os,hos,hcs,hds⟩:=id hs
 have hTs:s.TypeIs (.ref sl) "slice" := ⟨os,hos,hcs⟩
 unfold getItem
 try with_reducible refine wpAny_holding ?_
 first | refine zZ (zY ?_) | skip
 refine zZ (wpAny_sequenceKey ht.typeIs (by decide) ?_)
 refine zZ (wpAny_callSpecial?_slot (name:=a0Q "__getitem__") ht.typeIs a3Q
   (wpAny_call_entry a3Q ht.typeIs entry_tuple_getitem ?_ (args_tuple_getitem _ _)))
 show wpAny _ _ (b3X (.ref t) >>= _) _ _ s
 refine zZ (tupleItemsOf_ ht ?_)
 refine zZ (wpAny_typeOf hTs ?_)
 rw[if_pos (by decide)]
 refine zZ (LF hs ?_)
 have hno:¬(((0:Int)==0&&(2:Int)==1&&a1X 0 (items.size:Int) 2==items.size)=true):=by
   intro q
   rw[a1Z,a1Z] at q
   exact absurd q.1.2 (by decide)
 show wpAny _ _ (if (((0:Int)==0&&(2:Int)==1&&a1X 0 (items.size:Int) 2==items.size)=true) then _ else _) _ _ s
 rw[if_neg hno]
 have e:((a0J (a1X 0 (items.size:Int) 2)).filterMap fun(m:Nat)=>items[((0:Int)+(m:Int)*2).toNat]?)=(st2 items.size).filterMap fun i=>items[i]?:=by
   unfold st2;rw[List.filterMap_map];rfl
 rw[e]
 first
   | exact zZ (m:=a1K _) (xM (zY ⟨_,rfl,zY h⟩) htake)
   | exact zZ (m:=a1K _) (xM (zZ (zY (zY ⟨_,rfl,zY h⟩))) htake)
   | exact zZ (zZ (m:=a1K _) (xM (zY (zY ⟨_,rfl,zY h⟩)) htake))
   | exact zZ (zZ (m:=a1K _) (xM (zY ⟨_,rfl,zY h⟩) htake))
end
end HT
namespace L2
open PySem PySem.Spec PyProof.Rows
section
variable {X:Cx}{e st:Expr}{te ts:TE}{pos p2:Pos}
def nV (K:Frg) (te ts:TE):TE:=fun σ H Q=>te σ H fun x H1=>ts σ H1 fun k H2=>k = .int 2/\∃a xs,x = .ref a/\SqT K H2 a xs/\∀p,H2 p=none->Q (.ref p) (upd H2 p (.tup ((HT.st2 xs.length).filterMap fun i=>xs[i]?)))
theorem nW (he:PE X e te) (hst:PE X st ts):PE X (.Subscript e (.Slice none none (some st) p2) pos) (nV X.K te ts):=by
 intro pins s σ H Q I h
 refine Subscript_ (thn (he pins s σ H _ I h) fun v s1 ⟨x,H1,I1,r1,q1⟩=>?_)
 refine wpAny_Slice ?_
 rw[evalPart_none]
 refine zY (zY ?_)
 rw[evalPart_some]
 refine thn (hst pins s1 σ H1 _ I1 q1) fun u s2 ⟨k,H2,I2,r2,q2⟩=>?_
 obtain⟨rfl,a,xs,rfl,hx,q⟩:=q2
 obtain⟨tk,rfl⟩:=r2
 cases r1
 have I3:Inv X pins σ H2 { s2 with heap:=s2.heap.push { cls:=.type "slice", data:=.fields #[.none,.none,.int 2 tk] } }:=I2.kept (t':=s2.toks) fun b ob q=>zW _ q
 obtain⟨its,r,ht,hz⟩:=I3.tuple hx
 have hlen:its.toArray.size=xs.length:=by rw[zJ];exact r.length.symm
 show wpAny (model X.prog X.w) X.A (subscriptTail e (.Slice none none (some st) p2) (.ref a) (.ref s2.heap.objs.size)) (EP X pins σ Q) X.xe { s2 with heap:=s2.heap.push { cls:=.type "slice", data:=.fields #[.none,.none,.int 2 tk] } }
 refine tail_any (ops:=[.ref a,.ref s2.heap.objs.size]) ht.typeIs PyProof.Rows.slot_tuple_getitem.lookup ?_ (by with_unfolding_all rfl)
 refine HT.getItem_tuple_st2 ht (Heap.IsSliceOf.new ..) ?_ (by rw[hlen];exact hz)
 rw[hlen]
 have e:(fun i:Nat=>its.toArray[i]?)=fun i:Nat=>its[i]?:=by funext i;simp
 rw[e]
 refine⟨.ref _,_,I3.laid (t':=s2.toks) (o:=.tup ((HT.st2 xs.length).filterMap fun i=>xs[i]?)) (fun b ob q=>zW _ q) (zR _) ?_,rfl,q _ (I3.hok.fresh (zR _))⟩
 refine⟨zN (b7K _ _) (zN (HT.st2_len _) hz),_,LE r _,?_⟩
 exact IsTup.new { s2 with heap:=s2.heap.push { cls:=.type "slice", data:=.fields #[.none,.none,.int 2 tk] } }.heap _
end
end L2
namespace DL
open PySem PySem.Spec L2
theorem qZ {X:Cx}{K:Frg}{e st:Expr}{te ts:TE}{pos p2:Pos}(h:X.K=K) (he:PE X e te) (hst:PE X st ts):PE X (.Subscript e (.Slice none none (some st) p2) pos) (nV K te ts):=h▸nW he hst
section
variable {K:Frg}{ρ:List (Option DS)}{M:Own}{Q:DS->Own->Prop}{te ts:TE}
theorem nX (h:DE K te ρ M fun x M1=>∃ds,x = .d (.tuple ds)/\DE K ts ρ M1 fun k M2=>k = .d (.int 2)/\Q (.d (.tuple ((HT.st2 ds.length).filterMap fun i=>ds[i]?))) M2):DE K (nV K te ts) ρ M Q:=fun σ H QQ R k=>
 h σ H _ R fun v H1 x M1 o1 s1 t1 h1=>by
   obtain⟨ds,rfl,h1⟩:=h1
   refine h1 σ H1 _ (R.step o1 t1) fun u H2 y M2 o2 s2 t2 h2=>?_
   obtain⟨rfl,q⟩:=h2
   have s1':=s1.step t2
   unfold SI DV at s1'
   obtain⟨a,vs,rfl,hl,hd⟩:=s1'
   refine⟨BB s2,a,vs,rfl,hl.sq,fun p hp=>?_⟩
   rw[hd.length]
   have g:Grow K M2.W M2.W H2 (upd H2 p (.tup ((HT.st2 ds.length).filterMap fun i=>vs[i]?))):=AR _ hp
   refine k _ _ (.d (.tuple ((HT.st2 ds.length).filterMap fun i=>ds[i]?))) M2 (o2.new hp) ?_ ((t1.trans t2).trans ⟨g⟩) q
   unfold SI DV
   exact⟨p,_,rfl,.inl ⟨fun w=>w (o2.none hp),.inl AE⟩,(OF hd _).grow g⟩
end
end DL
namespace DL
open PySem PySem.Spec L2
section
variable {K:Frg}{M:Own}{Q:DS->Own->Prop}{ρ:List (Option DS)}{td ty:TE}
theorem j7 (h:DE K ty ρ M fun y M1=>DE K td ρ M1 fun x M2=>∃(ts:List (Str×PyData)) (k:Str),x = .d (.dict (AV ts))/\y = .d (.str k)/\Q (.d (.bool (AL ts k).isSome)) M2):DE K (lX ty td) ρ M Q:=fun σ H QQ R kk=>
 h σ H _ R fun v H1 x M1 o1 s1 t1 h1=>h1 σ H1 _ (R.step o1 t1) fun u H2 y M2 o2 s2 t2 h2=>by
   obtain⟨ts,k,rfl,rfl,q⟩:=h2
   unfold SI DV at s2
   obtain⟨a,ks,rfl,nw,e1,e2⟩:=s2
   rw[BC s1]
   refine⟨a,G7 ks (a0V k),rfl,.inl ⟨ks,a0V k,e1,rfl,rfl⟩,kk _ H2 _ M2 o2 ?_ (t1.trans t2) q⟩
   rcases HR (k:=k) e2 with ⟨d',w',a1,a2,a3⟩ | ⟨a1,a2⟩
   · rw[a1,a2];exact AT
   · rw[a1,a2];exact AT
theorem ZZ {a:Addr}{as bs:List PyData}(m:M a=some (.l as)) (hz:as.length+bs.length<=sizeLine) (q:Q (.d (.list (as++bs))) M):D2 K (Q4 K) (.loc a) (.d (.list bs)) M Q:=fun H v u QQ oa s1 s2 k=>by
 obtain⟨vs,e1,hd⟩:=oa a _ m
 unfold SI at s1
 unfold SI DV at s2
 obtain⟨b,us,rfl,hl2,hd2⟩:=s2
 refine .inl (.inr (.inr ⟨a,b,vs,us,s1,rfl,.inl (.inl e1),hl2.sq,by rw[hd.length,hd2.length];exact hz,fun p hp=>?_⟩))
 have g:Grow K M.W M.W H (upd H p (.lst (vs++us))):=AR _ hp
 refine k _ _ (.d (.list (as++bs))) M (oa.new hp) ?_ ⟨g⟩ q
 unfold SI DV
 exact⟨p,_,rfl,.inl ⟨fun w=>w (oa.none hp),.inl AE⟩,(hd.append hd2).grow g⟩
end
def tcN (Ds:List Deed) (m k:Nat):Bool:=match Ds[m]?,Ds[k]? with | some D,some E=>C0 D.d E.d | _,_=>false
def MJ (tc:Nat->Nat->Bool) (ws co acc:List Nat) (k:Nat):Bool:=!decide (k∈ws)||(co++acc).any fun m=>decide (m < k)&&tc m k
def lfL (tc:Nat->Nat->Bool) (ws co l:List Nat):List Nat:=l.foldl (fun acc k=>if MJ tc ws co acc k=true then acc++[k] else acc) []
def coN (st ws:List Nat):List Nat:=ws.filter fun m=>!decide (m∈st)
def lfB (ls:List (Str×Deed)) (st ws:List Nat):List Nat:=lfL (tcN (dsL ls)) ws (coN st ws) st
section
variable {tc:Nat->Nat->Bool}{ws co l st F acc:List Nat}{i k m:Nat}
theorem j8:lfL tc ws co (l++[k])=if MJ tc ws co (lfL tc ws co l) k=true then lfL tc ws co l++[k] else lfL tc ws co l:=by
 unfold lfL;rw[List.foldl_append];rfl
theorem HY:(lfL tc ws co l).Sublist l:=by
 have go:∀(l acc:List Nat),(l.foldl (fun acc k=>if MJ tc ws co acc k=true then acc++[k] else acc) acc).Sublist (acc++l):=by
   intro l
   induction l with
   | nil=>intro acc;simp
   | cons k r ih=>
     intro acc
     rw[List.foldl_cons]
     split
     · have:=ih (acc++[k])
       rwa [a7X] at this
     · exact(ih acc).trans (List.Sublist.append_left (List.sublist_cons_self k r) acc)
 exact go l []
theorem IP (h:st[i]?=some k):lfL tc ws co (st.take (i+1))=if MJ tc ws co (lfL tc ws co (st.take i)) k=true then lfL tc ws co (st.take i)++[k] else lfL tc ws co (st.take i):=by
 rw[a4Z,h];exact j8
theorem j9:∀(l:List Nat),(∀k∈l,k∈ws)->lfL tc ws [] l=[]:=by
 have go:∀l:List Nat,(∀k∈l,k∈ws)->l.foldl (fun acc k=>if MJ tc ws [] acc k=true then acc++[k] else acc) []=[]:=by
   intro l
   induction l with
   | nil=>intro _;rfl
   | cons k r ih=>
     intro h
     rw[List.foldl_cons,if_neg (by unfold MJ;rw[decide_eq_true (h k (by simp))];simp)]
     exact ih fun x hx=>h x (yV _ hx)
 exact fun l h=>go l h
theorem eU (ls:List (Str×Deed)) (st:List Nat):lfB ls st st=[]:=by
 unfold lfB
 have:coN st st=[]:=List.filter_eq_nil_iff.mpr fun m hm=>by simp[hm]
 rw[this]
 exact j9 _ fun k hk=>hk
theorem SA (hst:st.Pairwise (· < ·)) (hk:st[i]?=some k):m∈st.take i↔m∈st/\m < k:=by
 obtain⟨hi,e⟩:=yT.mp hk
 have e1:st=st.take i++k::st.drop (i+1):=by
   have:=a9Q i st
   rw[List.drop_eq_getElem_cons hi,e] at this
   exact this.symm
 rw[e1] at hst
 obtain⟨_,h2,h3⟩:=List.pairwise_append.mp hst
 rw[List.pairwise_cons] at h2
 constructor
 · intro h
   exact⟨a5V h,h3 m h k (by simp)⟩
 · rintro⟨h,hm⟩
   rw[e1] at h
   rcases yW.mp h with h | h
   · exact h
   · rcases yX.mp h with rfl | h
     · omega
     · have:=h2.1 m h;omega
theorem a6 (hst:st.Pairwise (· < ·)) (hk:st[i]?=some k) (hF:∀m∈F,m∈st) (ha:∀m,m∈acc↔m∈F/\m∈st.take i) (t:Nat->Bool) :
   ((F++co).filter fun m=>decide (m < k)).any t=(co++acc).any fun m=>decide (m < k)&&t m:=by
 rw[a2W,a8Q,a8Q]
 constructor
 · rintro⟨m,h1,h2⟩
   obtain⟨h1,h3⟩:=yL.mp h1
   have h4:=of_decide_eq_true h3
   refine⟨m,?_,by rw[h3,h2];rfl⟩
   rcases yW.mp h1 with h | h
   · exact zB _ ((ha m).mpr ⟨h,(SA hst hk).mpr ⟨hF m h,h4⟩⟩)
   · exact zA _ h
 · rintro⟨m,h1,h2⟩
   rw[a1Z] at h2
   refine⟨m,yL.mpr ⟨?_,h2.1⟩,h2.2⟩
   rcases yW.mp h1 with h | h
   · exact zB _ h
   · exact zA _ ((ha m).mp h).1
structure LwI (tc:Nat->Nat->Bool) (ws co st F:List Nat) (i:Nat):Prop where
 sub:∀m∈F,m∈st
 nd:F.Nodup
 acc:∀m,m∈lfL tc ws co (st.take i)↔m∈F/\m∈st.take i
 out:∀m∈st,m∉ws->m∈F
 lat:∀m∈F,m∉st.take i->m∉ws
theorem LwI.start (hst:st.Pairwise (· < ·)):LwI tc ws co st (coN ws st) 0:=
 ⟨fun m h=>(yL.mp h).1,(hst.imp fun {a b} h=>zC h).sublist a7K,fun m=>by simp[lfL],fun m h1 h2=>yL.mpr ⟨h1,by simp[h2]⟩,fun m h _=>by simpa using (yL.mp h).2⟩
theorem LwI.step (hst:st.Pairwise (· < ·)) (hk:st[i]?=some k) (h:LwI tc ws co st F i) :
   LwI tc ws co st (if (!decide (k∈F)&&((F++co).filter fun m=>decide (m < k)).any fun m=>tc m k)=true then F++[k] else F) (i+1):=by
 have hkt:k∉st.take i:=fun q=>by have:=((SA hst hk).mp q).2;omega
 have hks:k∈st:=yN hk
 have e1:st.take (i+1)=st.take i++[k]:=by rw[a4Z,hk];rfl
 have ok:MJ tc ws co (lfL tc ws co (st.take i)) k=(!decide (k∈ws)||((F++co).filter fun m=>decide (m < k)).any fun m=>tc m k):=by
   unfold MJ;rw[a6 hst hk h.sub h.acc]
 have hkl:k∉lfL tc ws co (st.take i):=fun q=>hkt (HY.subset q)
 by_cases hF:k∈F
 · rw[if_neg (by simp[hF])]
   have hw:k∉ws:=h.lat k hF hkt
   refine⟨h.sub,h.nd,fun m=>?_,h.out,fun m h1 h2=>h.lat m h1 fun q=>h2 (by rw[e1];exact zA _ q)⟩
   rw[IP hk,if_pos (by unfold MJ;simp[hw]),e1,yW,yW,h.acc m]
   constructor
   · rintro (⟨a,b⟩ | q)
     · exact⟨a,.inl b⟩
     · have:m=k:=by simpa using q
       subst this;exact⟨hF,.inr q⟩
   · rintro⟨a,b | b⟩
     · exact .inl ⟨a,b⟩
     · exact .inr b
 · have hw:k∈ws:=Decidable.byContradiction fun q=>hF (h.out k hks q)
   rw[decide_eq_false hF,Bool.not_false,Bool.true_and]
   cases ha:((F++co).filter fun m=>decide (m < k)).any fun m=>tc m k with
   | true=>
     rw[if_pos rfl]
     rw[ha,Bool.or_true] at ok
     refine⟨fun m hm=>?_,List.nodup_append.mpr ⟨h.nd,by simp,fun a h1 b hb=>by rw[show b=k by simpa using hb];rintro rfl;exact hF h1⟩,fun m=>?_,fun m h1 h2=>zA _ (h.out m h1 h2),fun m h1 h2=>?_⟩
     · rcases yW.mp hm with q | q
       · exact h.sub m q
       · rw[show m=k by simpa using q];exact hks
     · rw[IP hk,if_pos ok,e1,yW,yW,yW,h.acc m]
       constructor
       · rintro (⟨a,b⟩ | q)
         · exact⟨.inl a,.inl b⟩
         · exact⟨.inr q,.inr q⟩
       · rintro⟨a | a,b | b⟩
         · exact .inl ⟨a,b⟩
         · exact .inr b
         · exact .inr a
         · exact .inr b
     · rw[e1] at h2
       rcases yW.mp h1 with q | q
       · exact h.lat m q fun z=>h2 (zA _ z)
       · exact absurd (zB _ q) h2
   | false=>
     rw[if_neg nft]
     rw[ha,Bool.or_false,decide_eq_true hw] at ok
     refine⟨h.sub,h.nd,fun m=>?_,h.out,fun m h1 h2=>h.lat m h1 fun q=>h2 (by rw[e1];exact zA _ q)⟩
     rw[IP hk,if_neg (by rw[ok];decide),e1,yW,h.acc m]
     constructor
     · rintro⟨a,b⟩;exact⟨a,.inl b⟩
     · rintro⟨a,b | b⟩
       · exact⟨a,b⟩
       · rw[show m=k by simpa using b] at a;exact absurd a hF
theorem LwI.done (hst:st.Pairwise (· < ·)) (h:LwI tc ws co st F st.length) {ss:List Int}(hp:ss.Perm (CB F)) (hs:ss.Pairwise (·<=·)):ss=CB (lfL tc ws co st):=by
 have nd:(CB F).Nodup:=by
   unfold CB List.Nodup
   rw[a6X]
   exact h.nd.imp fun {a b} q e=>q (by omega)
 refine N2 (WK hs (hp.nodup_iff.mpr nd)) (O7 (hst.sublist HY)) fun a=>?_
 rw[hp.mem_iff,BD,BD]
 have:=h.acc
 rw[a3X] at this
 constructor
 · rintro⟨j,h1,h2⟩;exact⟨j,(this j).mpr ⟨h1,h.sub j h1⟩,h2⟩
 · rintro⟨j,h1,h2⟩;exact⟨j,((this j).mp h1).1,h2⟩
end
def clN (tc:Nat->Nat->Bool) (k:Nat) (c:List Nat):Bool:=match c.getLast? with | some m=>decide (m < k)&&tc m k | none=>false
def clD (tc:Nat->Nat->Bool) (k:Nat):PyData->Bool
 | .tuple ds=>match ds.getLast? with | some (.int i)=>decide (i < (k:Int))&&tc i.toNat k | _=>false
 | _=>false
theorem a7 {c:List Nat}{m:Nat}(h:c.getLast?=some m):(AB c).getLast?=some (.int (m:Int)):=by
 unfold AB CB;rw[b7W,b7W,h];rfl
theorem eV (tc:Nat->Nat->Bool) (k:Nat) (c:List Nat):clD tc k (chD c)=clN tc k c:=by
 show(match (AB c).getLast? with | some (.int i)=>decide (i < (k:Int))&&tc i.toNat k | _=>false)=_
 unfold clN
 cases h:c.getLast? with
 | none=>
   have:c=[]:=List.getLast?_eq_none_iff.mp h
   subst this;rfl
 | some m=>
   rw[a7 h]
   show(decide ((m:Int) < (k:Int))&&tc ((m:Int)).toNat k)=(decide (m < k)&&tc m k)
   rw[a7Z,show decide ((m:Int) < (k:Int))=decide (m < k) by rw[a2W,decide_eq_true_iff,decide_eq_true_iff];omega]
abbrev HZ (co:List Nat):EL:=co.map fun m=>(m,[m])
structure LsI (E:EL) (i:Nat):Prop where
 last:∀t∈E,t.2.getLast?=some t.1
 few:∀t∈E,t.2.length<=i+1
theorem SB (co:List Nat) (i:Nat):LsI (HZ co) i:=⟨fun t h=>by obtain⟨m,_,rfl⟩:=zL.mp h;rfl,fun t h=>by obtain⟨m,_,rfl⟩:=zL.mp h;simp⟩
theorem LsI.snoc {E:EL}{i k:Nat}{c:List Nat}(h:LsI E i) (hl:c.getLast?=some k) (hc:c.length<=i+2):LsI (E++[(k,c)]) (i+1):=
 ⟨fun t ht=>by
   rcases yW.mp ht with q | q
   · exact h.last t q
   · rw[show t=(k,c) by simpa using q];exact hl,fun t ht=>by
   rcases yW.mp ht with q | q
   · have:=h.few t q;omega
   · rw[show t=(k,c) by simpa using q];exact hc⟩
theorem LsI.more {E:EL}{i:Nat}(h:LsI E i):LsI E (i+1):=⟨h.last,fun t ht=>by have:=h.few t ht;omega⟩
theorem UT {tc:Nat->Nat->Bool}{k:Nat}:∀{E:EL},(∀t∈E,t.2.getLast?=some t.1)->(E.map (·.2)).any (clN tc k)=(E.map (·.1)).any fun m=>decide (m < k)&&tc m k
 | [],_=>rfl
 | t::r,h=>by
   rw[zI,zI,a6Q,a6Q,UT (E:=r) fun x hx=>h x (yV _ hx)]
   congr 1
   unfold clN
   rw[h t (by simp)]
theorem eY {tc:Nat->Nat->Bool}{k:Nat}{co:List Nat}{E:EL}{i:Nat}(h:LsI E i):(((HZ co++E).map (·.2)).any (clN tc k))=(co++E.map (·.1)).any fun m=>decide (m < k)&&tc m k:=by
 rw[UT fun t ht=>(yW.mp ht).elim ((SB co 0).last t) (h.last t),xI]
 congr 2
 rw[zD]
 exact a9X _
theorem Y7 (E:EL):(B4 (cvE E)).map (·.2)=(E.map (·.2)).map chD:=by
 unfold B4 cvE;rw[zD,zD,zD];rfl
theorem a8 (tc:Nat->Nat->Bool) (k:Nat) (L:List (List Nat)):(((L.map chD).filter (clD tc k)).map id)=(L.filter (clN tc k)).map chD:=by
 rw[a9X,xU]
 congr 2
 funext c
 exact eV tc k c
theorem SD {E:EL}{m:Nat}{c:List Nat}(h:m∉E.map (·.1)):j5 E m c=E++[(m,c)]:=by
 unfold j5
 rw[if_neg fun q=>?_]
 obtain⟨t,h1,h2⟩:=List.any_eq_true.mp q
 exact h (zL.mpr ⟨t,h1,of_decide_eq_true h2⟩)
def nI:PyData->Int | .int i=>i | _=>0
def jA:PyData->PyData | d=>.tuple [d]
theorem QK:∀(co:List Nat) (E:EL),co.Nodup->(∀m∈co,m∉E.map (·.1))->(AB co).foldl (fun ts d=>HF ts (nI d) (jA d)) (cvE E)=cvE (E++HZ co)
 | [],E,_,_=>by rw[show HZ []=[] from rfl,b2Q];rfl
 | m::r,E,nd,h=>by
   show(AB r).foldl (fun ts d=>HF ts (nI d) (jA d)) (HF (cvE E) (m:Int) (chD [m]))=_
   rw[WL,SD (h m (by simp)),QK r _ (xV.mp nd).2 fun x hx=>?_,a7X]
   · rfl
   · rw[xI]
     intro q
     rcases yW.mp q with q | q
     · exact h x (yV _ hx) q
     · rw[show x=m by simpa using q] at hx
       exact(xV.mp nd).1 hx
structure isSt (ls:List (Str×Deed)) (st:List Nat):Prop where
 inc:st.Pairwise (· < ·)
 lt:∀k∈st,k < ls.length
 needs:∀k∈st,∀j∈DH (dsL ls) k,j∈st
theorem Y8:∀{st:List Nat}{n a:Nat},st.Pairwise (· < ·)->(∀k∈st,a<=k/\k < a+n)->st.length<=n
 | [],n,a,_,_=>xT _
 | x::r,n,a,h,hl=>by
   rw[List.pairwise_cons] at h
   obtain⟨h0,h1⟩:=hl x (by simp)
   obtain⟨d,rfl⟩:∃d,x=a+d:=⟨x - a,by omega⟩
   have:=Y8 (st:=r) (n:=n - d - 1) (a:=a+d+1) h.2 fun k hk=>by
     have:=h.1 k hk
     have:=(hl k (yV _ hk)).2
     omega
   rw[yR];omega
theorem isSt.len {ls:List (Str×Deed)}{st:List Nat}(h:isSt ls st):st.length<=ls.length:=Y8 (a:=0) h.inc fun k hk=>⟨xT _,by rw[b6W];exact h.lt k hk⟩
theorem isSt.nil (ls:List (Str×Deed)):isSt ls []:=⟨.nil,by simp,by simp⟩
theorem isSt.all (ls:List (Str×Deed)):isSt ls (a0J ls.length):=⟨QG _,fun k hk=>List.mem_range.mp hk,fun k hk j hj=>List.mem_range.mpr (Nat.lt_trans (j4 hj) (List.mem_range.mp hk))⟩
theorem isSt.snoc {ls:List (Str×Deed)}{st:List Nat}{k:Nat}(h:isSt ls st) (hb:∀m∈st,m < k) (hk:k < ls.length) (hn:∀j∈DH (dsL ls) k,j∈st):isSt ls (st++[k]):=by
 refine⟨List.pairwise_append.mpr ⟨h.inc,by simp,fun a ha b hb'=>by rw[show b=k by simpa using hb'];exact hb a ha⟩,fun m hm=>?_,fun m hm j hj=>?_⟩
 · rcases yW.mp hm with q | q
   · exact h.lt m q
   · rw[show m=k by simpa using q];exact hk
 · rcases yW.mp hm with q | q
   · exact zA _ (h.needs m q j hj)
   · rw[show m=k by simpa using q] at hj;exact zA _ (hn j hj)
def IA:Nat->Str | 0 => "move" | 1 => "count" | _ => "end"
def IB (D:Deed):List (Str×PyData):=D.names.map fun n=>(n,.str (IA (B8 D.d n)))
theorem OG (D:Deed) (n:Str):AL (IB D) n=if n∈D.names then some (.str (IA (B8 D.d n))) else none:=by
 unfold IB
 have go:∀l:List Str,AL (l.map fun n=>(n,a0K (IA (B8 D.d n)))) n=if n∈l then some (.str (IA (B8 D.d n))) else none:=by
   intro l
   induction l with
   | nil=>rfl
   | cons x r ih=>
     rw[zI]
     simp only[AL]
     by_cases e:x=n
     · subst e;simp
     · rw[if_neg e,ih]
       have:n∈x::r↔n∈r:=by simp[show ¬n=x from fun q=>e q.symm]
       simp only[this]
 exact go _
theorem nY (u v:Nat) (hu:u=0∨u=1∨u=2) (hv:v=0∨v=1∨v=2) {ss:List Str}(hp:ss.Perm [IA u,IA v]) (hs:PyProof.Rows.sortedS ss=true) :
   (!a0Z (.list (ss.map .str)) (.list [.str (a0Q "count"),.str (a0Q "count")])&&!a0Z (.list (ss.map .str)) (.list [.str (a0Q "count"),.str (a0Q "move")])) = !ET u v:=by
 rcases pU hp with rfl | rfl
 · rcases hu with rfl | rfl | rfl <;> rcases hv with rfl | rfl | rfl <;> first | rfl | (exact absurd hs (by decide +kernel)) | decide +kernel
 · rcases hu with rfl | rfl | rfl <;> rcases hv with rfl | rfl | rfl <;> first | rfl | (exact absurd hs (by decide +kernel)) | decide +kernel
theorem eZ (u:Nat) (hu:u=0∨u=1∨u=2):b9Z (IA u)=true:=by rcases hu with rfl | rfl | rfl <;> decide +kernel
section
variable {M:Own}{Q:DS->Own->Prop}{w:List Th}{ls:List (Str×Deed)}{st ws:List Nat}
abbrev bxS (w:List Th) (ls:List (Str×Deed)) (st:List Nat):List DS:=[.d (AW w ls),.d (chD st)]
abbrev bxL (w:List Th) (ls:List (Str×Deed)) (st ws:List Nat):List DS:=[.d (AW w ls),.d (chD st),.d (chD ws)]
theorem N4 {a b:List Nat}(h:chD a=chD b):a=b:=e7 (PyData.tuple.inj h)
theorem SE {w':List Th}{ls':List (Str×Deed)}{st' ws':List Nat}(e:bxL w ls st ws=bxL w' ls' st' ws'):ls=ls'/\st=st'/\ws=ws':=by
 simp only[List.cons.injEq,DS.d.injEq,and_true] at e
 exact⟨FO e.1,N4 e.2.1,N4 e.2.2⟩
def FP:FSp:=⟨fun xs M=>∃st:List Nat,xs=[.d (chD st)]/\st.Pairwise (· < ·)/\st.length<=50,fun xs M y M'=>y = .d (.bool true)/\M'=M⟩
theorem SF (h:st.Pairwise (· < ·)) (hl:st.length<=50) (q:Q (.d (.bool true)) M):[DS.d (chD st)].length=1/\FP.pre [.d (chD st)] M/\∀x M',FP.post [.d (chD st)] M x M'->Q x M':=
 ⟨rfl,⟨st,rfl,h,hl⟩,fun x M' h=>by obtain⟨rfl,rfl⟩:=h;exact q⟩
def CL:FSp:=⟨fun xs M=>∃(w:List Th) (ls:List (Str×Deed)) (st:List Nat),xs=bxS w ls st/\goodB w ls/\isSt ls st,fun xs M y M'=>y = .d (.bool true)/\M'=M⟩
theorem SG (hg:goodB w ls) (h:isSt ls st) (q:Q (.d (.bool true)) M):(bxS w ls st).length=2/\CL.pre (bxS w ls st) M/\∀x M',CL.post (bxS w ls st) M x M'->Q x M':=
 ⟨rfl,⟨w,ls,st,rfl,hg,h⟩,fun x M' h=>by obtain⟨rfl,rfl⟩:=h;exact q⟩
def EG:FSp:=⟨fun xs M=>∃(w:List Th) (ls:List (Str×Deed)) (st:List Nat),xs=bxS w ls st/\goodB w ls/\isSt ls st,fun xs M y M'=>y = .d .none/\M'=M⟩
theorem IX (hg:goodB w ls) (h:isSt ls st) (q:Q (.d .none) M):(bxS w ls st).length=2/\EG.pre (bxS w ls st) M/\∀x M',EG.post (bxS w ls st) M x M'->Q x M':=
 ⟨rfl,⟨w,ls,st,rfl,hg,h⟩,fun x M' h=>by obtain⟨rfl,rfl⟩:=h;exact q⟩
def qC (xs:List DS) (M:Own):Prop:=∃(w:List Th) (ls:List (Str×Deed)) (st ws:List Nat),xs=bxL w ls st ws/\goodB w ls/\isSt ls st/\isSt ls ws
def FQ:FSp:=⟨qC,fun xs M y M'=>∀(w:List Th) (ls:List (Str×Deed)) (st ws:List Nat),xs=bxL w ls st ws->∃(p:Addr) (E:EL),M p=none/\y = .loc p/\M'=M.put p (.d (B4 (cvE E)))/\E.map (·.1)=lfB ls st ws⟩
theorem WR (hg:goodB w ls) (h:isSt ls st) (h2:isSt ls ws) (q:∀(p:Addr) (E:EL),M p=none->E.map (·.1)=lfB ls st ws->Q (.loc p) (M.put p (.d (B4 (cvE E))))):(bxL w ls st ws).length=3/\FQ.pre (bxL w ls st ws) M/\∀x M',FQ.post (bxL w ls st ws) M x M'->Q x M':=
 ⟨rfl,⟨w,ls,st,ws,rfl,hg,h,h2⟩,fun x M' h=>by obtain⟨p,E,a,rfl,rfl,b⟩:=h w ls st ws rfl;exact q p E a b⟩
def BL:FSp:=⟨qC,fun xs M y M'=>∀(w:List Th) (ls:List (Str×Deed)) (st ws:List Nat),xs=bxL w ls st ws->y = .d (chD (lfB ls st ws))/\M'=M⟩
theorem D7 (hg:goodB w ls) (h:isSt ls st) (h2:isSt ls ws) (q:Q (.d (chD (lfB ls st ws))) M):(bxL w ls st ws).length=3/\BL.pre (bxL w ls st ws) M/\∀x M',BL.post (bxL w ls st ws) M x M'->Q x M':=
 ⟨rfl,⟨w,ls,st,ws,rfl,hg,h,h2⟩,fun x M' h=>by obtain⟨rfl,rfl⟩:=h w ls st ws rfl;exact q⟩
def FR:FSp:=⟨fun xs M=>∃D:Deed,xs=[.d D.d]/\D.real,fun xs M y M'=>∀D:Deed,xs=[.d D.d]->y = .d (Z3 D.made)/\M'=M⟩
theorem UU {D:Deed}(hr:D.real) (q:Q (.d (Z3 D.made)) M):[DS.d D.d].length=1/\FR.pre [.d D.d] M/\∀x M',FR.post [.d D.d] M x M'->Q x M':=
 ⟨rfl,⟨D,rfl,hr⟩,fun x M' h=>by obtain⟨rfl,rfl⟩:=h D rfl;exact q⟩
abbrev SH (G:List (List Nat)):PyData:=.list (G.map fun g=>.list (AB g))
structure NdG (Ds:List Deed) (G:List (List Nat)):Prop where
 mem:∀i g,G[i]?=some g->∀j,j∈g↔j∈DH Ds i
 few:∀g∈G,g.length<=2
def FS:FSp:=⟨fun xs M=>∃ls:List (Str×Deed),xs=[.d (AJ ls)]/\goodB [] ls,fun xs M y M'=>∀ls:List (Str×Deed),xs=[.d (AJ ls)]->∃G,y = .d (SH G)/\G.length=ls.length/\NdG (dsL ls) G/\M'=M⟩
theorem SJ (hg:goodB [] ls) (q:∀G,G.length=ls.length->NdG (dsL ls) G->Q (.d (SH G)) M):[DS.d (AJ ls)].length=1/\FS.pre [.d (AJ ls)] M/\∀x M',FS.post [.d (AJ ls)] M x M'->Q x M':=
 ⟨rfl,⟨ls,rfl,hg⟩,fun x M' h=>by obtain⟨G,rfl,a,b,rfl⟩:=h ls rfl;exact q G a b⟩
def FT:FSp:=⟨fun xs M=>∃(ls:List (Str×Deed)) (b:Int),xs=[.d (AJ ls),.d (.int b)]/\goodB [] ls,fun xs M y M'=>∀(ls:List (Str×Deed)) (b:Int),xs=[.d (AJ ls),.d (.int b)]->∃st,y = .d (chD st)/\isSt ls st/\M'=M⟩
theorem E4 {b:Int}(hg:goodB [] ls) (q:∀st,isSt ls st->Q (.d (chD st)) M):[DS.d (AJ ls),.d (.int b)].length=2/\FT.pre [.d (AJ ls),.d (.int b)] M/\∀x M',FT.post [.d (AJ ls),.d (.int b)] M x M'->Q x M':=
 ⟨rfl,⟨ls,b,rfl,hg⟩,fun x M' h=>by obtain⟨st,rfl,a,rfl⟩:=h ls b rfl;exact q st a⟩
def E9:FSp:=⟨fun xs M=>∃D:Deed,xs=[.d D.d]/\D.real,fun xs M y M'=>∀D:Deed,xs=[.d D.d]->y = .d (.dict (AV (IB D)))/\M'=M⟩
theorem OH {D:Deed}(hr:D.real) (q:Q (.d (.dict (AV (IB D)))) M):[DS.d D.d].length=1/\E9.pre [.d D.d] M/\∀x M',E9.post [.d D.d] M x M'->Q x M':=
 ⟨rfl,⟨D,rfl,hr⟩,fun x M' h=>by obtain⟨rfl,rfl⟩:=h D rfl;exact q⟩
def EA:FSp:=⟨fun xs M=>∃D E:Deed,xs=[.d D.d,.d E.d]/\D.real/\E.real,fun xs M y M'=>∀D E:Deed,xs=[.d D.d,.d E.d]->y = .d (.bool (C0 D.d E.d))/\M'=M⟩
theorem SK {D E:Deed}(hr:D.real) (hr2:E.real) (q:Q (.d (.bool (C0 D.d E.d))) M):[DS.d D.d,.d E.d].length=2/\EA.pre [.d D.d,.d E.d] M/\∀x M',EA.post [.d D.d,.d E.d] M x M'->Q x M':=
 ⟨rfl,⟨D,E,rfl,hr,hr2⟩,fun x M' h=>by obtain⟨rfl,rfl⟩:=h D E rfl;exact q⟩
def BZ:FSp:=⟨fun xs M=>∃i:Int,xs=[.d (.int i),.d (.int i)],fun xs M y M'=>y = .d (.bool true)/\M'=M⟩
theorem UV {i:Int}(q:Q (.d (.bool true)) M):[DS.d (.int i),.d (.int i)].length=2/\BZ.pre [.d (.int i),.d (.int i)] M/\∀x M',BZ.post [.d (.int i),.d (.int i)] M x M'->Q x M':=
 ⟨rfl,⟨i,rfl⟩,fun x M' h=>by obtain⟨rfl,rfl⟩:=h;exact q⟩
def CM:FSp:=⟨fun xs M=>∃c:List Nat,xs=[.d (chD c),.d (chD c)]/\c.length<=50,fun xs M y M'=>y = .d (.bool true)/\M'=M⟩
theorem GL {c:List Nat}(hl:c.length<=50) (q:Q (.d (.bool true)) M):[DS.d (chD c),.d (chD c)].length=2/\CM.pre [.d (chD c),.d (chD c)] M/\∀x M',CM.post [.d (chD c),.d (chD c)] M x M'->Q x M':=
 ⟨rfl,⟨c,rfl,hl⟩,fun x M' h=>by obtain⟨rfl,rfl⟩:=h;exact q⟩
abbrev lxL (ls:List (Str×Deed)) (st ws:List Nat):List DS:=[.d (AJ ls),.d (chD st),.d (chD ws)]
def DK:FSp:=⟨fun xs M=>∃(ls:List (Str×Deed)) (st ws:List Nat),xs=lxL ls st ws/\goodB [] ls/\isSt ls st/\isSt ls ws,fun xs M y M'=>∀(ls:List (Str×Deed)) (st ws:List Nat),xs=lxL ls st ws->y = .d (.list (AB (lfB ls st ws)))/\M'=M⟩
theorem SL (hg:goodB [] ls) (h:isSt ls st) (h2:isSt ls ws) (q:Q (.d (.list (AB (lfB ls st ws)))) M):(lxL ls st ws).length=3/\DK.pre (lxL ls st ws) M/\∀x M',DK.post (lxL ls st ws) M x M'->Q x M':=
 ⟨rfl,⟨ls,st,ws,rfl,hg,h,h2⟩,fun x M' h=>by obtain⟨rfl,rfl⟩:=h ls st ws rfl;exact q⟩
def FU:FSp:=⟨fun xs M=>∃(p:Addr) (o:MO) (ls:List (Str×Deed)),xs=[.d (AJ ls),.loc p]/\M p=some o/\BJ o/\goodB [] ls,fun xs M y M'=>∀(p:Addr) (ls:List (Str×Deed)),xs=[.d (AJ ls),.loc p]->∃(st ws:List Nat) (o:MO),y = .d (.tuple [chD st,chD ws])/\isSt ls st/\isSt ls ws/\BJ o/\M'=M.put p o⟩
theorem UW {p:Addr}{o:MO}(m:M p=some o) (ho:BJ o) (hg:goodB [] ls) (q:∀(st ws:List Nat) (o':MO),isSt ls st->isSt ls ws->BJ o'->Q (.d (.tuple [chD st,chD ws])) (M.put p o')):[DS.d (AJ ls),.loc p].length=2/\FU.pre [.d (AJ ls),.loc p] M/\∀x M',FU.post [.d (AJ ls),.loc p] M x M'->Q x M':=
 ⟨rfl,⟨p,o,ls,rfl,m,ho,hg⟩,fun x M' h=>by obtain⟨st,ws,o',rfl,a,b,c,rfl⟩:=h p ls rfl;exact q st ws o' a b c⟩
def IC:FSp:=⟨fun xs M=>∃(h:Int) (cs:List Int),xs=[.d (.int h),.d (.list (cs.map .int))]/\xJ h<=2 ^ 21/\(∀c∈cs,xJ c<=2 ^ 21)/\cs.length<=50,fun xs M y M'=>M'=M/\∃(w:List Th) (ls:List (Str×Deed)),y = .d (AW w ls)/\goodB w ls/\okN w⟩
theorem UX {h:Int}{cs:List Int}(h1:xJ h<=2 ^ 21) (h2:∀c∈cs,xJ c<=2 ^ 21) (h3:cs.length<=50) (q:∀(w:List Th) (ls:List (Str×Deed)),goodB w ls->okN w->Q (.d (AW w ls)) M) :
   [DS.d (.int h),.d (.list (cs.map .int))].length=2/\IC.pre [.d (.int h),.d (.list (cs.map .int))] M/\∀x M',IC.post [.d (.int h),.d (.list (cs.map .int))] M x M'->Q x M':=
 ⟨rfl,⟨h,cs,rfl,h1,h2,h3⟩,fun x M' hh=>by obtain⟨rfl,w,ls,rfl,h4,h5⟩:=hh;exact q w ls h4 h5⟩
end
end DL
namespace DL
open PySem PySem.Spec L2
theorem jB {st:List Nat}(h:st.Pairwise (· < ·)) {d:PyData}(hd:d∈P2 (AB st) (AB (st.drop 1))):∃a b:Nat,a < b/\d = .tuple [.int (a:Int),.int (b:Int)]:=by
 unfold P2 at hd
 obtain⟨p,hp,rfl⟩:=zL.mp hd
 obtain⟨i,hi,e⟩:=List.mem_iff_getElem.mp hp
 rw[List.getElem_zip] at e
 have hl:(AB (st.drop 1)).length=st.length - 1:=by rw[AH,a3V]
 have hi2:i+1 < st.length:=by
   rw[b4Z,hl,AH] at hi
   omega
 refine⟨st[i],st[i+1],List.pairwise_iff_getElem.mp h i (i+1) (by omega) hi2 (by omega),?_⟩
 rw[← e]
 have e1:(AB st)[i]?=some (.int (st[i]:Int)):=Y4 (zV (by omega))
 have e2:(AB (st.drop 1))[i]?=some (.int (st[i+1]:Int)):=Y4 (by rw[List.getElem?_drop,Nat.add_comm 1 i];exact zV hi2)
 obtain⟨_,e1⟩:=yT.mp e1
 obtain⟨_,e2⟩:=yT.mp e2
 rw[e1,e2]
theorem QM (st:List Nat):CT (AB st) (some 1) none=AB (st.drop 1):=by
 rw[show CT (AB st) (some 1) none=(AB st).drop 1 from HQ _ 1]
 unfold AB CB
 rw[a9V,a9V]
def ndF (ls:List (Str×Deed)):PyData->List PyData | .int i=>AB (DH (dsL ls) i.toNat) | _=>[]
theorem UY (D:Deed):D.must.length<=2:=zN (yJ _ _) (by cases D <;> simp[Deed.names])
theorem UZ {α β:Type}{F:α->List β}{n:Nat}:∀{l:List α},(∀x∈l,(F x).length<=n)->(l.flatMap F).length<=l.length*n
 | [],_=>by simp
 | x::r,h=>by
   rw[List.flatMap_cons,yY,yR,Nat.succ_mul]
   have:=UZ (l:=r) fun y hy=>h y (yV _ hy)
   have:=h x (by simp)
   omega
theorem OI {α:Type}{F:α->List PyData}:∀(l:List α),(l.flatMap fun d=>(F d).map fun _=>PyData.bool true)=(a3Z (l.flatMap F).length true).map .bool
 | []=>rfl
 | x::r=>by
   rw[List.flatMap_cons,List.flatMap_cons,OI r,yY,IO,← xI,List.replicate_append_replicate]
theorem OJ {st:List Nat}{i:Nat}{d:PyData}(h:(AB st)[i]?=some d):∃k,st[i]?=some k/\d = .int (k:Int):=by
 unfold AB CB at h
 rw[zF,zF] at h
 cases e:st[i]? with
 | none=>rw[e] at h;cases h
 | some k=>rw[e] at h;exact⟨k,rfl,by cases h;rfl⟩
theorem LG (st ws:List Nat):(AB ws).filter (cKp st)=AB (coN st ws):=by
 unfold coN AB CB
 rw[xU,xU]
 congr 2
 apply b7V
 intro m _
 show(!((AB st).any fun e=>a0Z e (.int (m:Int))))=_
 rw[HX]
theorem a9 {l:List Nat}(h:l.Pairwise (· < ·)):l.Nodup:=h.imp fun {a b} q=>zC q
theorem jC {st ws:List Nat}(h:ws.Pairwise (· < ·)):((AB ws).filter (cKp st)).foldl (fun ts d=>HF ts (nI d) (jA d)) []=cvE (HZ (coN st ws)):=by
 rw[LG]
 exact QK (coN st ws) [] ((a9 h).sublist a7K) (by simp)
theorem WS (a b:Nat):decide ((a:Int) < (b:Int))=decide (a < b):=by rw[a2W,decide_eq_true_iff,decide_eq_true_iff];omega
theorem kI {Ds:List Deed}{m k:Nat}{D E:Deed}(h1:Ds[m]?=some D) (h2:Ds[k]?=some E):tcN Ds m k=C0 D.d E.d:=by unfold tcN;rw[h1,h2]
def lkN (ts:List (Str×PyData)) (n:Str):Option Nat:=match AL ts n with | some (.int i)=>some i.toNat | _=>none
structure MdT (Ds:List Deed) (ts:List (Str×PyData)) (k:Nat):Prop where
 look:∀x,(AL ts x=none/\∀j,j < k->¬mkN Ds j=some x)∨∃j,j < k/\mkN Ds j=some x/\AL ts x=some (.int (j:Int))
 few:ts.length<=k
def cTs (ts:List (Str×PyData)):PyData->Bool | .str n=>(AL ts n).isSome | _=>false
def fTs (ts:List (Str×PyData)):PyData->PyData | .str n=>(AL ts n).getD .none | _=>.none
theorem Y9 {Ds:List Deed}{ts:List (Str×PyData)}{k:Nat}(h:MdT Ds ts k):∀L:List Str,((L.map a0K).filter (cTs ts)).map (fTs ts)=AB (L.filterMap (lkN ts))
 | []=>rfl
 | x::r=>by
   rw[zI,List.filter_cons,a1V]
   have ih:=Y9 h r
   rcases h.look x with ⟨a,_⟩ | ⟨j,_,_,b⟩
   · rw[show cTs ts (.str x)=false by show(AL ts x).isSome=false;rw[a];rfl,if_neg nft,show lkN ts x=none by unfold lkN;rw[a]]
     exact ih
   · rw[show cTs ts (.str x)=true by show(AL ts x).isSome=true;rw[b];rfl,if_pos rfl,show lkN ts x=some j by unfold lkN;rw[b];rfl,zI,ih]
     rw[show fTs ts (.str x) = .int (j:Int) by show(AL ts x).getD .none=_;rw[b];rfl]
     rfl
theorem nZ {Ds:List Deed}(hf:FreshD Ds) {ts:List (Str×PyData)}{k:Nat}{D:Deed}(hD:Ds[k]?=some D) (h:MdT Ds ts k) (j:Nat):j∈D.must.filterMap (lkN ts)↔j∈DH Ds k:=by
 have hm:QE Ds k=D.must:=by unfold QE;rw[hD]
 rw[List.mem_filterMap]
 unfold DH
 rw[yL,List.mem_range]
 constructor
 · rintro⟨n,h1,h2⟩
   rcases h.look n with ⟨a,_⟩ | ⟨i,hi,e,b⟩
   · unfold lkN at h2;rw[a] at h2;cases h2
   · have:i=j:=by unfold lkN at h2;rw[b] at h2;exact Option.some.inj h2
     subst this
     exact⟨hi,by unfold O8;rw[e,hm];exact decide_eq_true h1⟩
 · rintro⟨h1,h2⟩
   unfold O8 at h2
   cases e:mkN Ds j with
   | none=>rw[e] at h2;cases h2
   | some n=>
     rw[e,hm] at h2
     refine⟨n,of_decide_eq_true h2,?_⟩
     rcases h.look n with ⟨_,b⟩ | ⟨i,hi,e',b⟩
     · exact absurd e (b j h1)
     · unfold lkN;rw[b,hf.one j i n e e'];rfl
theorem MdT.start (Ds:List Deed):MdT Ds [] 0:=⟨fun x=>.inl ⟨rfl,fun j h=>by omega⟩,zR _⟩
theorem QN:∀{ts:List (Str×PyData)}{x:Str},AL ts x=none->x∉ts.map (·.1)
 | [],x,_,h=>by simp at h
 | t::r,x,h,hm=>by
   simp only[AL] at h
   by_cases e:t.1=x
   · rw[if_pos e] at h;cases h
   · rw[if_neg e] at h
     rcases yX.mp hm with q | q
     · exact e q.symm
     · exact QN h q
theorem OK:∀(ts:List (Str×PyData)) (k:Str) (d:PyData) (x:Str),AL (ts++[(k,d)]) x=match AL ts x with | some v=>some v | none=>if k=x then some d else none
 | [],k,d,x=>rfl
 | t::r,k,d,x=>by
   rw[List.cons_append]
   simp only[AL]
   by_cases e:t.1=x
   · rw[if_pos e,if_pos e]
   · rw[if_neg e,if_neg e,OK r k d x]
theorem MdT.same {Ds:List Deed}{ts:List (Str×PyData)}{k:Nat}(h:MdT Ds ts k) (hk:mkN Ds k=none):MdT Ds ts (k+1):=by
 refine⟨fun x=>?_,by have:=h.few;omega⟩
 rcases h.look x with ⟨a,b⟩ | ⟨j,hj,e,b⟩
 · refine .inl ⟨a,fun j hj q=>?_⟩
   by_cases e:j=k
   · subst e;rw[hk] at q;cases q
   · exact b j (by omega) q
 · exact .inr ⟨j,by omega,e,b⟩
theorem MdT.put {Ds:List Deed}(hf:FreshD Ds) {ts:List (Str×PyData)}{k:Nat}{n:Str}(h:MdT Ds ts k) (hk:mkN Ds k=some n):MdT Ds (U5 ts n (.int (k:Int))) (k+1):=by
 have hn:AL ts n=none:=by
   rcases h.look n with ⟨a,_⟩ | ⟨j,hj,e,_⟩
   · exact a
   · have:=hf.one j k n e hk;omega
 rw[NV (QN hn)]
 refine⟨fun x=>?_,by have:=h.few;rw[yY];simp;omega⟩
 rw[OK]
 rcases h.look x with ⟨a,b⟩ | ⟨j,hj,e,b⟩
 · rw[a]
   by_cases e:n=x
   · subst e
     exact .inr ⟨k,by omega,hk,by simp⟩
   · refine .inl ⟨by simp[e],fun j hj q=>?_⟩
     by_cases ej:j=k
     · subst ej;rw[hk] at q;exact e (Option.some.inj q)
     · exact b j (by omega) q
 · rw[b];exact .inr ⟨j,by omega,e,rfl⟩
theorem qD {Ds:List Deed}{k:Nat}{D:Deed}(h:Ds[k]?=some D):mkN Ds k=D.made:=by unfold mkN;rw[h];rfl
theorem NdG.snoc {Ds:List Deed}{G:List (List Nat)}{g:List Nat}(h:NdG Ds G) (hm:∀j,j∈g↔j∈DH Ds G.length) (hf:g.length<=2):NdG Ds (G++[g]):=by
 refine⟨fun i x hx=>?_,fun x hx=>?_⟩
 · by_cases hi:i < G.length
   · rw[yQ hi] at hx;exact h.mem i x hx
   · have e:=(yT.mp hx).1
     rw[yY] at e
     have:i=G.length:=by simp at e;omega
     subst this
     rw[yP (zR _),Nat.sub_self] at hx
     have:g=x:=by simpa using hx
     subst this;exact hm
 · rcases yW.mp hx with q | q
   · exact h.few x q
   · rw[show x=g by simpa using q];exact hf
theorem aA (L:List Nat) (k:Nat):((AB L).filter fun d=>match d with | .int i=>decide (i < (k:Int)) | _=>false)=AB (L.filter fun m=>decide (m < k)):=by
 unfold AB CB
 rw[xU,xU]
 congr 2
 apply b7V
 intro m _
 exact WS m k
def qE (k:Nat):PyData->Bool | .int i=>decide (i < (k:Int)) | _=>false
theorem WT (L:List Nat) (k:Nat):((AB L).filter (qE k)).map id=AB (L.filter fun m=>decide (m < k)):=by rw[a9X];exact aA L k
def kJ (tc:Nat->Nat->Bool) (k:Nat):PyData->PyData | .int i=>.bool (tc i.toNat k) | _=>.none
theorem aB (tc:Nat->Nat->Bool) (k:Nat) (L:List Nat):((AB L).filter fun _=>true).map (kJ tc k)=(L.map fun m=>tc m k).map .bool:=by
 rw[S5]
 unfold AB CB
 rw[zD,zD,zD]
 rfl
theorem WU (L:List Nat) (t:Nat->Bool):(L.map t).any id=L.any t:=by rw[List.any_map];rfl
def o0:PyData->PyData | .int i=>.int (1*2 ^ i.toNat) | _=>.none
theorem fA (st:List Nat):∃κ:List Nat,((HT.st2 (AB st).length).filterMap fun i=>(AB st)[i]?)=AB κ/\(∀k∈κ,k∈st)/\κ.length<=st.length:=by
 have go:∀L:List Nat,∃κ:List Nat,(L.filterMap fun i=>(AB st)[i]?)=AB κ/\(∀k∈κ,k∈st)/\κ.length<=L.length:=by
   intro L
   induction L with
   | nil=>exact⟨[],rfl,by simp,zR _⟩
   | cons i r ih=>
     obtain⟨κ,e,h1,h2⟩:=ih
     rw[a1V]
     cases hx:(AB st)[i]? with
     | none=>exact⟨κ,e,h1,by rw[yR];omega⟩
     | some d=>
       obtain⟨k,hk,rfl⟩:=OJ hx
       refine⟨k::κ,by dsimp only;rw[e];rfl,fun x hx=>?_,by rw[yR,yR];omega⟩
       rcases yX.mp hx with rfl | q
       · exact yN hk
       · exact h1 x q
 obtain⟨κ,e,h1,h2⟩:=go (HT.st2 (AB st).length)
 refine⟨κ,e,h1,zN h2 (zN (HT.st2_len _) ?_)⟩
 rw[AH];exact zR _
theorem V0 (κ:List Nat):((AB κ).filter fun _=>true).map o0=(κ.map fun k=>(1:Int)*2 ^ k).map .int:=by
 rw[S5]
 unfold AB CB
 rw[zD,zD,zD]
 rfl
theorem fB (x:Str) (p:Int):IB (.move x p)=[(x,.str (a0Q "move"))]:=rfl
theorem aC (x:Str) (c:Int):IB (.count x c)=[(x,.str (a0Q "count"))]:=by
 show [(x,a0K (IA (if (true&&x==x)=true then 1 else 2)))]=_
 rw[beq_self_eq_true];rfl
theorem aD {x y:Str}(h:x≠y) (p c:Int):IB (.split x y p c)=[(x,.str (a0Q "count")),(y,.str (a0Q "end"))]:=by
 show [(x,a0K (IA (if (true&&x==x)=true then 1 else 2))),(y,.str (IA (if (true&&x==y)=true then 1 else 2)))]=_
 rw[beq_self_eq_true,beq_false_of_ne h];rfl
theorem fC {x y:Str}(h:x≠y):IB (.join x y)=[(x,.str (a0Q "count")),(y,.str (a0Q "end"))]:=by
 show [(x,a0K (IA (if (true&&x==x)=true then 1 else 2))),(y,.str (IA (if (true&&x==y)=true then 1 else 2)))]=_
 rw[beq_self_eq_true,beq_false_of_ne h];rfl
def fIn (st:List Nat) (d:PyData):PyData:=.bool ((AB st).any fun e=>a0Z e d)
theorem jD (st g:List Nat):((AB g).filter fun _=>true).map (fIn st)=(g.map fun j=>decide (j∈st)).map .bool:=by
 rw[S5]
 unfold AB CB
 rw[zD,zD,zD]
 apply yM
 intro j _
 show PyData.bool ((AB st).any fun e=>a0Z e (.int (j:Int))) = .bool (decide (j∈st))
 rw[HX]
theorem fD {L:List Str}{k:Nat}{n:Str}(nd:L.Nodup) (h:L[k]?=some n):U5 ((L.take k).map fun x=>(x,a0K (a0Q "end"))) n (.str (a0Q "end"))=(L.take (k+1)).map fun x=>(x,a0K (a0Q "end")):=by
 rw[NV,a4Z,h,xI]
 · rfl
 · rw[zD]
   intro q
   obtain⟨x,hx,e⟩:=zL.mp q
   have e:x=n:=e
   subst e
   obtain⟨i,hi,e⟩:=List.mem_take_iff_getElem.mp hx
   obtain⟨hk,e2⟩:=yT.mp h
   exact List.pairwise_iff_getElem.mp nd i k (by omega) hk (by omega) (e.trans e2.symm)
def YA:PyData->Bool | .str _=>true | _=>false
end DL
namespace DL
theorem LwI.len {tc:Nat->Nat->Bool}{ws co st F:List Nat}{i:Nat}(hst:st.Pairwise (· < ·)) (h:LwI tc ws co st F i):F.length<=st.length:=by
 have go:∀(F st:List Nat),F.Nodup->(∀m∈F,m∈st)->F.length<=st.length:=by
   intro F
   induction F with
   | nil=>intro st _ _;exact xT _
   | cons x r ih=>
     intro st nd hm
     rw[xV] at nd
     have hx:=hm x (by simp)
     have:=ih (st.erase x) nd.2 fun m hm2=>by
       have hne:m≠x:=fun e=>nd.1 (e▸hm2)
       exact(List.mem_erase_of_ne hne).mpr (hm m (yV _ hm2))
     rw[List.length_erase_of_mem hx] at this
     have:0 < st.length:=List.length_pos_of_mem hx
     rw[yR];omega
 exact go F st h.nd h.sub
end DL
namespace DL
open PySem PySem.Spec L2
section
variable {M:Own}{Q:DS->Own->Prop}{w:List Th}{A B:List Ln}
theorem fE {K:Frg}{ds:List PyData}(q:Q (.d (.list ds)) M):DR K (RP K) [.d (.list ds)] M Q:=fun H vs QQ oa s k=>by
 obtain⟨v,r,rfl,h1,h2⟩:=s
 cases h2
 unfold SI DV at h1
 obtain⟨a,vs,rfl,hl,hd⟩:=h1
 refine⟨a,vs,rfl,.inl hl.sq,fun p hp=>?_⟩
 have g:Grow K M.W M.W H (upd H p (.lst vs)):=AR _ hp
 refine k _ _ (.d (.list ds)) M (oa.new hp) ?_ ⟨g⟩ q
 unfold SI DV
 exact⟨p,vs,rfl,.inl ⟨fun w=>w (oa.none hp),.inl AE⟩,hd.grow g⟩
end
end DL
namespace DL
open PySem PySem.Spec L2
theorem OL {K:Frg}{ρ:List (Option DS)}{M:Own}{Q:DS->Own->Prop}(q:∀p,M p=none->Q (.loc p) (M.put p (.d (AV [])))):DE K bC ρ M Q:=fun σ H QQ R k p hp=>by
 obtain⟨oa0,st0⟩:=K1 (kvs:=[]) (ks:=[]) R.own hp (by unfold DKV;rfl)
 exact k _ _ (.loc p) _ oa0 (by unfold SI;rfl) st0 (q p (R.own.none hp))
end DL
namespace L2
open PySem PySem.Spec PyProof.Rows
section
variable {X:Cx}{scope:Scope}{NC:List Str}{fr:List (Option Nat)}
theorem fF {kx vx iter tg:Expr}{ifs:List Expr}{pos:Pos}{wi:TI}{g:TG}{tt:TT}{tk tv:TE}{i:Nat}{x:Str}{py spos:Pos}(hc:X.calm=true) (hu:X.A.units+1 < cLine) (hN:X.N.Nodup) (hix:X.N[i]?=some x) (hx:Loc X.env.scope x) (S:CSc X scope NC fr) (hi:PI X tg iter wi)
   (hb:∀(C:Addr) (s:Shared) (H:Hp) (ex:List Addr) (pn:List (Addr×Obj)),PG (AO X scope NC C s H ex pn) tg g/\PTs (AO X scope NC C s H ex pn) ifs tt/\PE (AO X scope NC C s H ex pn) kx tk/\PE (AO X scope NC C s H ex pn) vx tv)
   (hsw:swapsWith (.DictComp kx vx [⟨tg,iter,ifs,0⟩] scope pos) (some (.Name x py)) spos.line X.env=pure true)
   (hf:X.fn x=true∨X.env.scope.names.lookup x=some .local:=by first | exact .inl rfl | exact .inr rfl | assumption)
   (hs:∀x,foldedSetIterable iter X.env x=pure x:=by intro _;rfl) :
   PS X (.Assign [.Name x py] (.DictComp kx vx [⟨tg,iter,ifs,0⟩] scope pos) spos) (fun D σ H=>NR fr wi g tt tk tv σ H fun v H'=>D.nx (σ.set i (some v)) H'):=by
 intro pins s σ H D I h
 rw[exec_Assign_Name_used _ _ _ _ hsw]
 refine zZ (wpAny_standAt (zZ ?_))
 show wpAny _ X.A (do let _ ← comprehension (.DictComp kx vx [⟨tg,iter,ifs,0⟩] scope pos) scope X.env _ newDict false (eval iter X.env) (some (assign (.Name x py) X.env))) _ _ s
 refine zZ (thn (Q7 (use:=some (assign (.Name x py) X.env)) (Q:=fun v H'=>D.nx (σ.set i (some v)) H') (QQ:=fun _ s'=>∃σ' H',Inv X pins σ' H' s'/\D.nx σ' H') hc S hi hb I hu h (fun A C H' s' m oC I' hn q back hoC=>?_) hs) fun _ s' hq=>zY (zY hq))
 have hst:=QV (X:=X) (pos:=py) hN hix hx hf (pins++[(C,oC)]) s' σ H' (.ref A) (.ref A) (fun σ' H'=>D.nx σ' H') I' rfl q
 refine thn hst fun _ s2 ⟨σ2,H2,I2,q2⟩=>?_
 have hC2:s2.heap.get? C=some oC:=(I2.pin (C,oC) (zB _ (zB _ (by simp)))).1
 obtain⟨o',es,ep,ho',hd',hr'⟩:=hn
 rw[hoC] at ho';cases ho'
 exact⟨m,⟨_,es,ep,hC2,hd',hr'⟩,fun h' sb=>⟨σ2,H2,back pins σ2 H2 s2 h' I2 sb,q2⟩⟩
end
end L2
namespace DL
open PySem PySem.Spec L2
section
variable {K:Frg}{M:Own}{ρ:List (Option DS)}{g:TG}{wi:TI}
theorem P5 {fr:List (Option Nat)}{tt:TT}{te:TE}{T:List Nat}{Q:DS->Own->Prop}(ho:HK g T) (hT:∀i∈T,∀j,fr[i]?≠some (some j))
   (h:DI K wi ρ M fun ds M1=>ds.length < sizeLine/\∃(c:PyData->Bool) (f:PyData->PyData),(∀d∈ds,∀M',DG K g d (EB fr ρ) M' fun ρ2 M2=>M2=M'/\DT K tt ρ2 M2 fun b M3=>M3=M'/\b=c d/\(c d=true->DE K te ρ2 M3 fun y M4=>y = .d (f d)/\M4=M'))/\∀A,M1 A=none->Q (.loc A) (M1.put A (.l ((ds.filter c).map f)))) :
   DE K (LQ fr wi g tt te) ρ M Q:=by
 refine dU ho hT fun σ H R Rl k=>h σ H R Rl fun J ds H1 M1 o1 t1 wd q=>k J ds H1 M1 o1 t1 wd ?_
 obtain⟨hsz,c,f,he,q⟩:=q
 refine⟨hsz,fun A hA=>⟨fun k acc M'=>acc=((ds.take k).filter c).map f/\M'=M1.put A (.l acc),⟨by simp,rfl⟩,fun k acc M' ⟨e1,e2⟩=>⟨by rw[e2];exact zU,?_⟩,fun k d acc M' hd ⟨e1,e2⟩=>?_,fun acc M' ⟨e1,e2⟩=>?_⟩⟩
 · rw[e1,zX]
   exact zN (yJ _ _) (by rw[a2X];omega)
 · have hm:d∈ds:=yN hd
   intro σ H v QQ R dv kk
   refine he d hm M' σ H v QQ R dv fun ρ' M2 σ' H' R' st ⟨eM,q2⟩=>kk ρ' M2 σ' H' R' st fun σ2 H2 QQ2 R2 k2=>?_
   refine q2 σ2 H2 QQ2 R2 fun b H3 M3 o3 st3 ⟨eM3,eb,q3⟩=>k2 b H3 M3 o3 st3 ?_
   have ts:(ds.take (k+1)).filter c=(ds.take k).filter c++(if c d then [d] else []):=take_succ_filter c ds k d hd
   cases hb:c d with
   | false=>
     rw[hb] at eb
     subst eb
     refine L2.bH ⟨?_,by rw[eM3,e2]⟩
     rw[ts,hb,e1];simp
   | true=>
     rw[hb] at eb
     subst eb
     refine L2.YT ?_
     refine RI (q3 hb) fun y M4 ⟨ey,e4⟩=>⟨f d,ey,by rw[e4,e2];exact zU,?_,by rw[e4,e2,yI]⟩
     rw[ts,hb,e1];simp
 · rw[e2,e1,a3X]
   exact q A hA
end
end DL
namespace DL
open PySem PySem.Spec L2
def FnIn (K:Frg) (n:Str) (st:Stmt):Prop:=∃(f:Addr) (oc:Value) (od:Option Addr) (kV dc pm:Value) (an:Option Addr) (cd ct:Value) (sl:Array (Option Value)),a2Z K mainGlobals n=some (some (.ref f)) /\
 K.lookup f=some ⟨oc,od,.func (a6V n n (E1 st) (CC st) (AA st) .none kV dc pm an cd ct),sl⟩/\b4W K cd n=true/\b0Q K (.ref f)=true
theorem jE {K:Frg}{n:Str}{st:Stmt}{f:Addr}{oc:Value}{od:Option Addr}{kV dc pm:Value}{an:Option Addr}{cd ct:Value}{sl:Array (Option Value)}(a:a2Z K mainGlobals n=some (some (.ref f)))
   (l:K.lookup f=some ⟨oc,od,.func (a6V n n (E1 st) (CC st) (AA st) .none kV dc pm an cd ct),sl⟩) (c:b4W K cd n=true) (k:b0Q K (.ref f)=true):FnIn K n st:=⟨f,oc,od,kV,dc,pm,an,cd,ct,sl,a,l,c,k⟩
structure FnAt (K:Frg) (mg:Str->Option Value) (n:Str) (st:Stmt) (f:Addr) (fd:FuncData):Prop where
 fn:Fun K n n st f fd
 mg_:mg n=some (.ref f)
 kp:b0Q K (.ref f)=true
theorem FnIn.at {K:Frg}{n:Str}{st:Stmt}{h:Heap}{mg:Str->Option Value}(b:FnIn K n st) (X:K.In h) (G:h.Ns mainGlobals mg):∃f fd,FnAt K mg n st f fd:=
 let ⟨f,_,_,_,_,_,_,_,_,_,a,l,c,k⟩:=b
 ⟨f,_,m3 l c k,PySem.W.mg_of X G a,k⟩
section
variable {P:Program}{w:World}{K:Frg}{mg:Str->Option Value}{base:Heap}{n:Str}{st:Stmt}{f:Addr}{fd:FuncData}{k:Nat}{ps:List Str}
abbrev o8 (n:Str) (st:Stmt) (ps:List Str):Prop:=∀(kV doc pm:Value) (an:Option Addr) (cdv ct:Value) (us:List Value),us.length=ps.length->bindArgs (a6V n n (E1 st) (CC st) (AA st) .none kV doc pm an cdv ct) ⟨us,[]⟩=pure (ps.zip us)
theorem FnAt.has {S:FSp}(a:FnAt K mg n st f fd) (h:FnOk P w K mg base CX0 k f fd ps (spD K ps.length S)) (b:o8 n st ps):Has P w K mg base n k ps S:=⟨f,fd,h,a.mg_,a.kp,a.fn.binds b⟩
end
end DL
namespace DL
open PySem PySem.Spec L2
abbrev GM:Stmt:=_root_.sT 1
abbrev EW:Stmt:=_root_.sT 2
abbrev IQ:Stmt:=_root_.sT 6
abbrev GN:Stmt:=_root_.sT 7
abbrev IR:Stmt:=_root_.sT 8
abbrev CN:Stmt:=_root_.sT 9
abbrev EH:Stmt:=_root_.sT 16
abbrev EX:Stmt:=_root_.sT 17
abbrev FV:Stmt:=_root_.sT 15
abbrev KB:Stmt:=_root_.sT 18
abbrev KC:Stmt:=_root_.sT 3
abbrev D3:Stmt:=_root_.sT 20
abbrev BG:Stmt:=_root_.sT 21
abbrev KD:Stmt:=_root_.sT 26
abbrev EY:Stmt:=_root_.sT 25
abbrev KF:Stmt:=_root_.sT 24
abbrev B5:Stmt:=_root_.sT 30
abbrev BR:Stmt:=_root_.sT 29
abbrev KG:Stmt:=_root_.sT 28
abbrev BS:Stmt:=_root_.sT 34
abbrev E5:Stmt:=_root_.sT 32
abbrev EZ:Stmt:=_root_.sT 33
abbrev DN:Stmt:=_root_.sT 35
abbrev BU:Stmt:=_root_.sT 36
abbrev CO:Stmt:=_root_.sT 37
abbrev F0:Stmt:=_root_.sT 38
abbrev F3:Stmt:=_root_.sT 39
abbrev F4:Stmt:=_root_.sT 40
abbrev CP:Stmt:=_root_.sT 41
abbrev CQ:Stmt:=_root_.sT 42
abbrev CS:Stmt:=_root_.sT 43
abbrev E6:Stmt:=_root_.sT 44
abbrev BV:Stmt:=_root_.sT 45
abbrev B2:Stmt:=_root_.sT 46
abbrev DO:Stmt:=_root_.sT 47
abbrev YB:Stmt:=_root_.sT 48
abbrev vS (x:String) (t:Tok):Value:=.str (a0Q x) t
abbrev eS (P:Params) (x:String) (t:Tok) (v:Value):DictEntry:=⟨a7W P (a0Q x),.str (a0Q x) t,v⟩
abbrev hs (i:Nat):Stmt:=PySem.Challenge.pw_struckdeeds_k40_lifted.main.body.getD i (.Pass ⟨0,0,0,0⟩)
abbrev fO (n q:String) (st:Stmt) (doc pm:Value) (c:Nat):Obj:=⟨.type "function", none,.func (a6V (a0Q n) (a0Q q) (E1 st) (CC st) (AA st) .none .none doc pm none (.ref c) .none),#[]⟩
abbrev gO (n q:String) (st:Stmt):Obj:=⟨.none,none,.func (.mk (a0Q n) (a0Q q) (E1 st) (.stmts (CC st)) (AA st) 0 [] .none .none .none .none none .none .none 0),#[]⟩
abbrev tO (vs:Array Value):Obj:=⟨.type "tuple", none,.seq vs 0,#[]⟩
abbrev kO (n q:String) (a b c:Tok) (l k f:Nat) (x1:Value) (t:Nat) (x2 x3 x4 x5:Value) (u l2:Nat) (d:Tok):Obj:=⟨.type "code", none,.fields #[vS n a,vS q b,vS "/claim/cut.py" c,.int l 0,.int k 0,.int 0 0,.int 0 0,.int f 0,x1,.bool true,.int t 0,x2,.none,x3,x4,x5,.int u 0,.int l2 0,vS "/claim/cut.py" d],#[]⟩
abbrev fP (n:String) (st:Stmt) (doc pm:Value) (c:Nat):Obj:=fO n n st doc pm c
abbrev gP (n:String) (st:Stmt):Obj:=gO n n st
abbrev kPz (n:String) (a b c:Tok) (l k f:Nat) (x1:Value) (t:Nat) (x2 x3 x4 x5:Value) (u l2:Nat) (d:Tok):Obj:=kO n n a b c l k f x1 t x2 x3 x4 x5 u l2 d
abbrev nF (vs:Array Value):Obj:=⟨.none,none,.fields vs,#[]⟩
abbrev lF (l:List (Nat×Nat×Nat)):Obj:=nF (l.flatMap fun t=>[.int t.1 0,.int t.2.1 0,.ref t.2.2]).toArray
def hV:Program:={ PySem.Challenge.pw_struckdeeds_k40_lifted with main:={ PySem.Challenge.pw_struckdeeds_k40_lifted.main with body:=([1,2,3,5,6,7,8,9,11,12,13,15,16,17,18,20,21,23,24,25,26,28,29,30,32,33,34,35,36,37,38,39,40,41,42,43,44,45,46,47,48]:List Nat).map hs } }
abbrev hB:List Stmt:=PySem.W.behindTheImports PySem.Challenge.pw_struckdeeds_k40_lifted
def hN:Env:={ scope:=PySem.Challenge.pw_struckdeeds_k40_lifted.main.scope,locals:=mainNs,globals:=mainNs,cells:=[],code:=a0X 13,frame:=some 14 }
abbrev hC:Code:=.body hB hN
abbrev hF:List Frame:=[PySem.W.topFrame { line:=0,col:=0,endLine:=0,endCol:=0 }]
abbrev hI (t:PySem.W.BT) (l:List (Nat×Obj)):PySem.W.BT:=l.foldl (fun t x=>t.ins x.1 x.2) t
noncomputable def hT0:Params->PySem.W.BT:=fun P=>hI .nil [(0,PySem.W.boot_o_0 P),(1,PySem.W.boot_o_1 P),(2,PySem.W.boot_o_2 P),(3,PySem.W.boot_o_3 P),(4,PySem.W.boot_o_4 P),(5,PySem.W.boot_o_5 P),(6,PySem.W.boot_o_6 P),(7,PySem.W.boot_o_7 P),(8,PySem.W.boot_o_8 P),(9,PySem.W.boot_o_9 P),(10,PySem.W.boot_o_10 P)]
noncomputable def hT1:Params->PySem.W.BT:=fun P=>hI (hT0 P) (
 (11,tO #[]) ::
 (12,nF #[]) ::
 (13,(⟨(.type "code"),none,(.fields #[(vS "<module>" 182),(vS "<module>" 183),(vS "/claim/cut.py" 184),(.int 1 0),(.int 0 0),(.int 0 0),(.int 0 0),(.int 0 0),(.ref 11),(.bool false),(.int 181 0),(.ref 12),.none,.none,.none,.none,(.int 185 0),(.int 1 0),(vS "/claim/cut.py" 186)]),#[]⟩:Obj)) ::
 (14,(⟨(.type "frame"),none,.plain,#[(some (.ref 13)),(some (.ref 3)),(some (.ref 3)),none,(some (vS "__main__" 164)),none,(some (.ref 0))]⟩:Obj))::[])
noncomputable abbrev hX1 (w:World) (os:OsState):PySem.W.SharedT:=⟨hT1 w.params,15,{ },⟨[]⟩,{ },187,os⟩
noncomputable abbrev hX2 (w:World) (os:OsState):PySem.W.SharedT:=⟨hT1 w.params,15,{ },⟨[]⟩,{ },187,os⟩
def hD3:Params->List DictEntry:=fun P=>[eS P "__name__" 165 (vS "struckdeeds.errors" 262),eS P "__doc__" 166 .none,eS P "__package__" 167 .none,eS P "__loader__" 168 (.builtin "__main__.__loader__#opaque"),eS P "__spec__" 169 .none,eS P "__annotations__" 170 (.ref 6),eS P "__builtins__" 171 (.ref 4),eS P "__file__" 173 (vS "/claim/cut.py" 172),eS P "__cached__" 174 .none,eS P "is_whole" 195 (.ref 21),eS P "is_within" 204 (.ref 28),eS P "rises" 210 (.ref 33),eS P "FORMS" 234 (.ref 34),eS P "form_of" 241 (.ref 41),eS P "names_in" 248 (.ref 48),eS P "made_by" 255 (.ref 55),eS P "must_stand" 261 (.ref 60),eS P "StrikeError" 281 (.ref 70)]
noncomputable def hT3:Params->PySem.W.BT:=fun P=>hI (hT1 P) (
 (3,(⟨.type "dict", none,.dict (hD3 P).toArray 18,#[]⟩:Obj)) ::
 (12,lF [(2,0,20),(4,0,27),(6,0,32),(10,0,40),(12,0,47),(14,0,54),(20,0,59),(24,0,66)]) ::
 (15,tO #[]) ::
 (16,nF #[]) ::
 (17,tO #[(vS "thing" 192)]) ::
 (18,tO #[]) ::
 (19,gP "is_whole" (hs 1)) ::
 (20,kPz "is_whole" 189 190 191 2 1 3 (.ref 15) 181 (.ref 16) (.ref 17) (.ref 18) (.ref 19) 193 2 194) ::
 (21,fP "is_whole" (hs 1) .none (vS "struckdeeds.words" 187) 20) ::
 (22,tO #[]) ::
 (23,nF #[]) ::
 (24,tO #[(vS "thing" 199),(vS "low" 200),(vS "high" 201)]) ::
 (25,tO #[]) ::
 (26,gP "is_within" (hs 2)) ::
 (27,kPz "is_within" 196 197 198 4 3 3 (.ref 22) 181 (.ref 23) (.ref 24) (.ref 25) (.ref 26) 202 4 203) ::
 (28,fP "is_within" (hs 2) .none (vS "struckdeeds.words" 187) 27) ::
 (29,tO #[]) ::
 (30,nF #[]) ::
 (31,gP "rises" (hs 3)) ::
 (32,kPz "rises" 205 206 207 6 1 3 (.ref 29) 181 (.ref 30) .none .none (.ref 31) 208 6 209) ::
 (33,fP "rises" (hs 3) .none (vS "struckdeeds.words" 187) 32) ::
 (34,(⟨(.type "dict"),none,(.dict #[eS P "put" 213 (vS "npk" 214),eS P "take" 215 (vS "n" 216),eS P "move" 217 (vS "np" 218),eS P "count" 219 (vS "nk" 220),eS P "name" 221 (vS "nn" 222),eS P "split" 223 (vS "nnpk" 224),eS P "join" 225 (vS "nn" 226)] 7),#[]⟩:Obj)) ::
 (35,tO #[]) ::
 (36,nF #[]) ::
 (37,tO #[(vS "word" 238)]) ::
 (38,tO #[]) ::
 (39,gP "form_of" (hs 6)) ::
 (40,kPz "form_of" 235 236 237 10 1 3 (.ref 35) 181 (.ref 36) (.ref 37) (.ref 38) (.ref 39) 239 10 240) ::
 (41,fP "form_of" (hs 6) .none (vS "struckdeeds.deeds" 211) 40) ::
 (42,tO #[]) ::
 (43,nF #[]) ::
 (44,tO #[(vS "deed" 245)]) ::
 (45,tO #[]) ::
 (46,gP "names_in" (hs 7)) ::
 (47,kPz "names_in" 242 243 244 12 1 3 (.ref 42) 181 (.ref 43) (.ref 44) (.ref 45) (.ref 46) 246 12 247) ::
 (48,fP "names_in" (hs 7) .none (vS "struckdeeds.deeds" 211) 47) ::
 (49,tO #[]) ::
 (50,nF #[]) ::
 (51,tO #[(vS "deed" 252)]) ::
 (52,tO #[]) ::
 (53,gP "made_by" (hs 8)) ::
 (54,kPz "made_by" 249 250 251 14 1 3 (.ref 49) 181 (.ref 50) (.ref 51) (.ref 52) (.ref 53) 253 14 254) ::
 (55,fP "made_by" (hs 8) .none (vS "struckdeeds.deeds" 211) 54) ::
 (56,tO #[]) ::
 (57,nF #[]) ::
 (58,gP "must_stand" (hs 9)) ::
 (59,kPz "must_stand" 256 257 258 20 1 3 (.ref 56) 181 (.ref 57) .none .none (.ref 58) 259 20 260) ::
 (60,fP "must_stand" (hs 9) .none (vS "struckdeeds.deeds" 211) 59) ::
 (61,tO #[(.type "ValueError")]) ::
 (62,(⟨(.type "builtin_function_or_method"),none,(.fields #[(.builtin "type.__prepare__"),(.type "type")]),#[]⟩:Obj)) ::
 (63,(⟨(.type "dict"),none,(.dict #[eS P "__module__" 271 (vS "struckdeeds.errors" 262),eS P "__qualname__" 273 (vS "StrikeError" 272),eS P "__firstlineno__" 275 (.int 24 274),eS P "__static_attributes__" 276 (.ref 68)] 4),#[]⟩:Obj)) ::
 (64,tO #[]) ::
 (65,nF #[]) ::
 (66,(⟨(.type "code"),none,(.fields #[(vS "StrikeError" 266),(vS "StrikeError" 267),(vS "/claim/cut.py" 268),(.int 24 0),(.int 0 0),(.int 0 0),(.int 0 0),(.int 0 0),(.ref 64),(.bool false),(.int 181 0),(.ref 65),.none,.none,.none,.none,(.int 269 0),(.int 24 0),(vS "/claim/cut.py" 270)]),#[]⟩:Obj)) ::
 (67,(⟨(.type "frame"),none,.plain,#[(some (.ref 66)),(some (.ref 3)),(some (.ref 63)),none,(some (vS "struckdeeds.errors" 262)),none,(some (.ref 0))]⟩:Obj)) ::
 (68,tO #[]) ::
 (69,(⟨(.type "dict"),none,(.dict #[eS P "__module__" 271 (vS "struckdeeds.errors" 262),eS P "__firstlineno__" 275 (.int 24 274),eS P "__static_attributes__" 276 (.ref 68),eS P "__weakref__" 278 (.ref 71),eS P "__doc__" 279 .none] 3),#[]⟩:Obj)) ::
 (70,(⟨(.type "type"),none,(.cls (.mk "StrikeError" [(.type "ValueError")] [(.ref 70),(.type "ValueError"),(.type "Exception"),(.type "BaseException"),(.type "object")] 69 "StrikeError" true [] [] false none false)),#[(some (.ref 61)),none,(some (vS "StrikeError" 264)),(some (vS "StrikeError" 272)),(some (.builtin "ValueError.__new__")),(some (.bool true))]⟩:Obj)) ::
 (71,(⟨(.type "getset_descriptor"),none,(.fields #[(vS "__weakref__" 277),(.ref 70),(.builtin "ExceptionGroup.__weakref__"),.none]),#[]⟩:Obj)) ::
 (72,(⟨(.type "super"),none,(.fields #[(.ref 70),(.ref 70),(.ref 70)]),#[]⟩:Obj)) ::
 (73,(⟨(.type "builtin_function_or_method"),none,(.fields #[(.builtin "object.__init_subclass__"),(.ref 70)]),#[]⟩:Obj))::[])
noncomputable abbrev hX3 (w:World) (os:OsState):PySem.W.SharedT:=⟨hT3 w.params,74,{ },⟨[]⟩,{ },282,os⟩
def hD4:Params->List DictEntry:=fun P=>(hD3 P).set 0 (eS P "__name__" 165 (vS "struckdeeds.touches" 367))++[eS P "NoLine" 306 (.ref 90),eS P "NoStand" 322 (.ref 102),eS P "makers" 330 (.ref 109),eS P "deeds_of" 336 (.ref 114),eS P "is_number" 344 (.ref 121),eS P "needs" 350 (.ref 126),eS P "is_stand" 358 (.ref 131),eS P "refuse_no_stand" 366 (.ref 138),eS P "ADDING" 372 (.ref 139),eS P "touch" 378 (.ref 144),eS P "may_share" 388 (.ref 151),eS P "use_of" 396 (.ref 158)]
noncomputable def hT4:Params->PySem.W.BT:=fun P=>hI (hT3 P) (
 (3,(⟨.type "dict", none,.dict (hD4 P).toArray 30,#[]⟩:Obj)) ::
 (12,lF [(2,0,20),(4,0,27),(6,0,32),(10,0,40),(12,0,47),(14,0,54),(20,0,59),(24,0,66),(26,0,79),(30,0,98),(33,0,108),(36,0,113),(38,0,120),(40,0,125),(46,0,130),(50,0,137),(55,0,143),(57,0,150),(60,0,157)]) ::
 (70,(⟨(.type "type"),none,(.cls (.mk "StrikeError" [(.type "ValueError")] [(.ref 70),(.type "ValueError"),(.type "Exception"),(.type "BaseException"),(.type "object")] 69 "StrikeError" true [] [(.ref 90),(.ref 102)] false none false)),#[(some (.ref 61)),none,(some (vS "StrikeError" 264)),(some (vS "StrikeError" 272)),(some (.builtin "ValueError.__new__")),(some (.bool true))]⟩:Obj)) ::
 (74,tO #[(.ref 70)]) ::
 (75,(⟨(.type "builtin_function_or_method"),none,(.fields #[(.builtin "type.__prepare__"),(.type "type")]),#[]⟩:Obj)) ::
 (76,(⟨(.type "dict"),none,(.dict #[eS P "__module__" 289 (vS "struckdeeds.errors" 262),eS P "__qualname__" 291 (vS "NoLine" 290),eS P "__firstlineno__" 293 (.int 26 292),eS P "__init__" 301 (.ref 87),eS P "__static_attributes__" 303 (.ref 88)] 5),#[]⟩:Obj)) ::
 (77,tO #[]) ::
 (78,lF [(28,4,86)]) ::
 (79,(⟨(.type "code"),none,(.fields #[(vS "NoLine" 284),(vS "NoLine" 285),(vS "/claim/cut.py" 286),(.int 26 0),(.int 0 0),(.int 0 0),(.int 0 0),(.int 0 0),(.ref 77),(.bool false),(.int 181 0),(.ref 78),.none,.none,.none,.none,(.int 287 0),(.int 26 0),(vS "/claim/cut.py" 288)]),#[]⟩:Obj)) ::
 (80,(⟨(.type "frame"),none,.plain,#[(some (.ref 79)),(some (.ref 3)),(some (.ref 76)),none,(some (vS "struckdeeds.errors" 262)),none,(some (.ref 0))]⟩:Obj)) ::
 (81,tO #[]) ::
 (82,nF #[]) ::
 (83,tO #[(vS "self" 297),(vS "line" 298)]) ::
 (84,tO #[]) ::
 (85,gO "__init__" "NoLine.__init__" (kD 0 (hs 12))) ::
 (86,kO "__init__" "NoLine.__init__" 294 295 296 28 2 3 (.ref 81) 181 (.ref 82) (.ref 83) (.ref 84) (.ref 85) 299 28 300) ::
 (87,fO "__init__" "NoLine.__init__" (kD 0 (hs 12)) .none (vS "struckdeeds.errors" 262) 86) ::
 (88,tO #[(vS "line" 302)]) ::
 (89,(⟨(.type "dict"),none,(.dict #[eS P "__module__" 289 (vS "struckdeeds.errors" 262),eS P "__firstlineno__" 293 (.int 26 292),eS P "__init__" 301 (.ref 87),eS P "__static_attributes__" 303 (.ref 88),eS P "__doc__" 304 .none] 2),#[]⟩:Obj)) ::
 (90,(⟨(.type "type"),none,(.cls (.mk "NoLine" [(.ref 70)] [(.ref 90),(.ref 70),(.type "ValueError"),(.type "Exception"),(.type "BaseException"),(.type "object")] 89 "NoLine" true [] [] false none false)),#[(some (.ref 74)),none,(some (vS "NoLine" 282)),(some (vS "NoLine" 290)),(some (.builtin "ValueError.__new__")),(some (.bool true))]⟩:Obj)) ::
 (91,(⟨(.type "super"),none,(.fields #[(.ref 90),(.ref 90),(.ref 90)]),#[]⟩:Obj)) ::
 (92,(⟨(.type "builtin_function_or_method"),none,(.fields #[(.builtin "object.__init_subclass__"),(.ref 90)]),#[]⟩:Obj)) ::
 (93,tO #[(.ref 70)]) ::
 (94,(⟨(.type "builtin_function_or_method"),none,(.fields #[(.builtin "type.__prepare__"),(.type "type")]),#[]⟩:Obj)) ::
 (95,(⟨(.type "dict"),none,(.dict #[eS P "__module__" 314 (vS "struckdeeds.errors" 262),eS P "__qualname__" 316 (vS "NoStand" 315),eS P "__firstlineno__" 318 (.int 30 317),eS P "__static_attributes__" 319 (.ref 100)] 4),#[]⟩:Obj)) ::
 (96,tO #[]) ::
 (97,nF #[]) ::
 (98,(⟨(.type "code"),none,(.fields #[(vS "NoStand" 309),(vS "NoStand" 310),(vS "/claim/cut.py" 311),(.int 30 0),(.int 0 0),(.int 0 0),(.int 0 0),(.int 0 0),(.ref 96),(.bool false),(.int 181 0),(.ref 97),.none,.none,.none,.none,(.int 312 0),(.int 30 0),(vS "/claim/cut.py" 313)]),#[]⟩:Obj)) ::
 (99,(⟨(.type "frame"),none,.plain,#[(some (.ref 98)),(some (.ref 3)),(some (.ref 95)),none,(some (vS "struckdeeds.errors" 262)),none,(some (.ref 0))]⟩:Obj)) ::
 (100,tO #[]) ::
 (101,(⟨(.type "dict"),none,(.dict #[eS P "__module__" 314 (vS "struckdeeds.errors" 262),eS P "__firstlineno__" 318 (.int 30 317),eS P "__static_attributes__" 319 (.ref 100),eS P "__doc__" 320 .none] 2),#[]⟩:Obj)) ::
 (102,(⟨(.type "type"),none,(.cls (.mk "NoStand" [(.ref 70)] [(.ref 102),(.ref 70),(.type "ValueError"),(.type "Exception"),(.type "BaseException"),(.type "object")] 101 "NoStand" true [] [] false none false)),#[(some (.ref 93)),none,(some (vS "NoStand" 307)),(some (vS "NoStand" 315)),(some (.builtin "ValueError.__new__")),(some (.bool true))]⟩:Obj)) ::
 (103,(⟨(.type "super"),none,(.fields #[(.ref 102),(.ref 102),(.ref 102)]),#[]⟩:Obj)) ::
 (104,(⟨(.type "builtin_function_or_method"),none,(.fields #[(.builtin "object.__init_subclass__"),(.ref 102)]),#[]⟩:Obj)) ::
 (105,tO #[]) ::
 (106,nF #[]) ::
 (107,gP "makers" (hs 15)) ::
 (108,kPz "makers" 325 326 327 33 1 3 (.ref 105) 181 (.ref 106) .none .none (.ref 107) 328 33 329) ::
 (109,fP "makers" (hs 15) .none (vS "struckdeeds.books" 323) 108) ::
 (110,tO #[]) ::
 (111,nF #[]) ::
 (112,gP "deeds_of" (hs 16)) ::
 (113,kPz "deeds_of" 331 332 333 36 1 3 (.ref 110) 181 (.ref 111) .none .none (.ref 112) 334 36 335) ::
 (114,fP "deeds_of" (hs 16) .none (vS "struckdeeds.books" 323) 113) ::
 (115,tO #[]) ::
 (116,nF #[]) ::
 (117,tO #[(vS "book" 340),(vS "thing" 341)]) ::
 (118,tO #[]) ::
 (119,gP "is_number" (hs 17)) ::
 (120,kPz "is_number" 337 338 339 38 2 3 (.ref 115) 181 (.ref 116) (.ref 117) (.ref 118) (.ref 119) 342 38 343) ::
 (121,fP "is_number" (hs 17) .none (vS "struckdeeds.books" 323) 120) ::
 (122,tO #[]) ::
 (123,nF #[]) ::
 (124,gP "needs" (hs 18)) ::
 (125,kPz "needs" 345 346 347 40 2 3 (.ref 122) 181 (.ref 123) .none .none (.ref 124) 348 40 349) ::
 (126,fP "needs" (hs 18) .none (vS "struckdeeds.books" 323) 125) ::
 (127,tO #[]) ::
 (128,nF #[]) ::
 (129,gP "is_stand" (hs 20)) ::
 (130,kPz "is_stand" 353 354 355 46 2 3 (.ref 127) 181 (.ref 128) .none .none (.ref 129) 356 46 357) ::
 (131,fP "is_stand" (hs 20) .none (vS "struckdeeds.stands" 351) 130) ::
 (132,tO #[]) ::
 (133,nF #[]) ::
 (134,tO #[(vS "book" 362),(vS "thing" 363)]) ::
 (135,tO #[]) ::
 (136,gP "refuse_no_stand" (hs 21)) ::
 (137,kPz "refuse_no_stand" 359 360 361 50 2 3 (.ref 132) 181 (.ref 133) (.ref 134) (.ref 135) (.ref 136) 364 50 365) ::
 (138,fP "refuse_no_stand" (hs 21) .none (vS "struckdeeds.stands" 351) 137) ::
 (139,tO #[(vS "count" 369),(vS "split" 370),(vS "join" 371)]) ::
 (140,tO #[]) ::
 (141,nF #[]) ::
 (142,gP "touch" (hs 24)) ::
 (143,kPz "touch" 373 374 375 55 2 3 (.ref 140) 181 (.ref 141) .none .none (.ref 142) 376 55 377) ::
 (144,fP "touch" (hs 24) .none (vS "struckdeeds.touches" 367) 143) ::
 (145,tO #[]) ::
 (146,nF #[]) ::
 (147,tO #[(vS "one" 382),(vS "other" 383),(vS "name" 384),(vS "uses" 385)]) ::
 (148,tO #[]) ::
 (149,gP "may_share" (hs 25)) ::
 (150,kPz "may_share" 379 380 381 57 3 3 (.ref 145) 181 (.ref 146) (.ref 147) (.ref 148) (.ref 149) 386 57 387) ::
 (151,fP "may_share" (hs 25) .none (vS "struckdeeds.touches" 367) 150) ::
 (152,tO #[]) ::
 (153,nF #[]) ::
 (154,tO #[(vS "deed" 392),(vS "name" 393)]) ::
 (155,tO #[]) ::
 (156,gP "use_of" (hs 26)) ::
 (157,kPz "use_of" 389 390 391 60 2 3 (.ref 152) 181 (.ref 153) (.ref 154) (.ref 155) (.ref 156) 394 60 395) ::
 (158,fP "use_of" (hs 26) .none (vS "struckdeeds.touches" 367) 157)::[])
noncomputable abbrev hX4 (w:World) (os:OsState):PySem.W.SharedT:=⟨hT4 w.params,159,{ },⟨[]⟩,{ },397,os⟩
def hD5:Params->List DictEntry:=fun P=>(hD4 P).set 0 (eS P "__name__" 165 (vS "law_struckdeeds_k40_lifted" 423))++[eS P "lifted" 407 (.ref 165),eS P "lifted_between" 416 (.ref 172),eS P "lifts_by_ends" 422 (.ref 177),eS P "_law_mixed" 431 (.ref 184),eS P "_law_take" 440 (.ref 191),eS P "_law_names" 446 (.ref 196),eS P "_law_deed" 452 (.ref 201),eS P "_law_after" 458 (.ref 206),eS P "_law_start" 464 (.ref 211),eS P "_law_book" 482 (.ref 218),eS P "_law_must" 489 (.ref 225),eS P "_law_made" 496 (.ref 232),eS P "_law_needs" 502 (.ref 237),eS P "_law_stand" 508 (.ref 242),eS P "_law_kinds" 514 (.ref 247),eS P "_law_touch" 526 (.ref 254),eS P "_law_alike" 532 (.ref 259),eS P "_law_lifted" 538 (.ref 264),eS P "_law_pair" 544 (.ref 269),eS P "law" 560 (.ref 276)]
noncomputable def hT5:Params->PySem.W.BT:=fun P=>hI (hT4 P) (
 (3,(⟨.type "dict", none,.dict (hD5 P).toArray 50,#[]⟩:Obj)) ::
 (12,lF [(2,0,20),(4,0,27),(6,0,32),(10,0,40),(12,0,47),(14,0,54),(20,0,59),(24,0,66),(26,0,79),(30,0,98),(33,0,108),(36,0,113),(38,0,120),(40,0,125),(46,0,130),(50,0,137),(55,0,143),(57,0,150),(60,0,157),(65,0,164),(69,0,171),(71,0,176),(84,0,183),(86,0,190),(89,0,195),(100,0,200),(121,0,205),(129,0,210),(132,0,217),(148,0,224),(154,0,231),(160,0,236),(170,0,241),(177,0,246),(186,0,253),(194,0,258),(202,0,263),(211,0,268),(226,0,275)]) ::
 (159,tO #[]) ::
 (160,nF #[]) ::
 (161,tO #[(vS "book" 402),(vS "stand" 403),(vS "wished" 404)]) ::
 (162,tO #[]) ::
 (163,gP "lifted" (hs 28)) ::
 (164,kPz "lifted" 399 400 401 65 3 3 (.ref 159) 181 (.ref 160) (.ref 161) (.ref 162) (.ref 163) 405 65 406) ::
 (165,fP "lifted" (hs 28) .none (vS "struckdeeds.ways" 397) 164) ::
 (166,tO #[]) ::
 (167,nF #[]) ::
 (168,tO #[(vS "book" 411),(vS "stand" 412),(vS "wished" 413)]) ::
 (169,tO #[]) ::
 (170,gP "lifted_between" (hs 29)) ::
 (171,kPz "lifted_between" 408 409 410 69 3 3 (.ref 166) 181 (.ref 167) (.ref 168) (.ref 169) (.ref 170) 414 69 415) ::
 (172,fP "lifted_between" (hs 29) .none (vS "struckdeeds.ways" 397) 171) ::
 (173,tO #[]) ::
 (174,nF #[]) ::
 (175,gP "lifts_by_ends" (hs 30)) ::
 (176,kPz "lifts_by_ends" 417 418 419 71 3 3 (.ref 173) 181 (.ref 174) .none .none (.ref 175) 420 71 421) ::
 (177,fP "lifts_by_ends" (hs 30) .none (vS "struckdeeds.ways" 397) 176) ::
 (178,tO #[]) ::
 (179,nF #[]) ::
 (180,tO #[(vS "_law_cell" 428)]) ::
 (181,tO #[]) ::
 (182,gP "_law_mixed" (hs 32)) ::
 (183,kPz "_law_mixed" 425 426 427 84 1 3 (.ref 178) 181 (.ref 179) (.ref 180) (.ref 181) (.ref 182) 429 84 430) ::
 (184,fP "_law_mixed" (hs 32) .none (vS "law_struckdeeds_k40_lifted" 423) 183) ::
 (185,tO #[]) ::
 (186,nF #[]) ::
 (187,tO #[(vS "_law_pack" 435),(vS "_law_size" 436),(vS "_law_digit" 437)]) ::
 (188,tO #[]) ::
 (189,gP "_law_take" (hs 33)) ::
 (190,kPz "_law_take" 432 433 434 86 2 3 (.ref 185) 181 (.ref 186) (.ref 187) (.ref 188) (.ref 189) 438 86 439) ::
 (191,fP "_law_take" (hs 33) .none (vS "law_struckdeeds_k40_lifted" 423) 190) ::
 (192,tO #[]) ::
 (193,nF #[]) ::
 (194,gP "_law_names" (hs 34)) ::
 (195,kPz "_law_names" 441 442 443 89 2 3 (.ref 192) 181 (.ref 193) .none .none (.ref 194) 444 89 445) ::
 (196,fP "_law_names" (hs 34) .none (vS "law_struckdeeds_k40_lifted" 423) 195) ::
 (197,tO #[]) ::
 (198,nF #[]) ::
 (199,gP "_law_deed" (hs 35)) ::
 (200,kPz "_law_deed" 447 448 449 100 3 3 (.ref 197) 181 (.ref 198) .none .none (.ref 199) 450 100 451) ::
 (201,fP "_law_deed" (hs 35) .none (vS "law_struckdeeds_k40_lifted" 423) 200) ::
 (202,tO #[]) ::
 (203,nF #[]) ::
 (204,gP "_law_after" (hs 36)) ::
 (205,kPz "_law_after" 453 454 455 121 3 3 (.ref 202) 181 (.ref 203) .none .none (.ref 204) 456 121 457) ::
 (206,fP "_law_after" (hs 36) .none (vS "law_struckdeeds_k40_lifted" 423) 205) ::
 (207,tO #[]) ::
 (208,nF #[]) ::
 (209,gP "_law_start" (hs 37)) ::
 (210,kPz "_law_start" 459 460 461 129 3 3 (.ref 207) 181 (.ref 208) .none .none (.ref 209) 462 129 463) ::
 (211,fP "_law_start" (hs 37) .none (vS "law_struckdeeds_k40_lifted" 423) 210) ::
 (212,tO #[]) ::
 (213,nF #[]) ::
 (214,tO #[(vS "_law_head" 468),(vS "_law_cells" 469),(vS "_law_pack" 470),(vS "_law_spare" 471),(vS "_law_amount" 472),(vS "_law_start_here" 473),(vS "_law_some" 474),(vS "_law_lines" 475),(vS "_law_cell" 476),(vS "_law_digits" 477),(vS "_law_hand" 478),(vS "_law_deed_here" 479)]) ::
 (215,tO #[]) ::
 (216,gP "_law_book" (hs 38)) ::
 (217,kPz "_law_book" 465 466 467 132 2 3 (.ref 212) 181 (.ref 213) (.ref 214) (.ref 215) (.ref 216) 480 132 481) ::
 (218,fP "_law_book" (hs 38) .none (vS "law_struckdeeds_k40_lifted" 423) 217) ::
 (219,tO #[]) ::
 (220,nF #[]) ::
 (221,tO #[(vS "_law_deed_here" 486)]) ::
 (222,tO #[]) ::
 (223,gP "_law_must" (hs 39)) ::
 (224,kPz "_law_must" 483 484 485 148 1 3 (.ref 219) 181 (.ref 220) (.ref 221) (.ref 222) (.ref 223) 487 148 488) ::
 (225,fP "_law_must" (hs 39) .none (vS "law_struckdeeds_k40_lifted" 423) 224) ::
 (226,tO #[]) ::
 (227,nF #[]) ::
 (228,tO #[(vS "_law_deed_here" 493)]) ::
 (229,tO #[]) ::
 (230,gP "_law_made" (hs 40)) ::
 (231,kPz "_law_made" 490 491 492 154 1 3 (.ref 226) 181 (.ref 227) (.ref 228) (.ref 229) (.ref 230) 494 154 495) ::
 (232,fP "_law_made" (hs 40) .none (vS "law_struckdeeds_k40_lifted" 423) 231) ::
 (233,tO #[]) ::
 (234,nF #[]) ::
 (235,gP "_law_needs" (hs 41)) ::
 (236,kPz "_law_needs" 497 498 499 160 1 3 (.ref 233) 181 (.ref 234) .none .none (.ref 235) 500 160 501) ::
 (237,fP "_law_needs" (hs 41) .none (vS "law_struckdeeds_k40_lifted" 423) 236) ::
 (238,tO #[]) ::
 (239,nF #[]) ::
 (240,gP "_law_stand" (hs 42)) ::
 (241,kPz "_law_stand" 503 504 505 170 2 3 (.ref 238) 181 (.ref 239) .none .none (.ref 240) 506 170 507) ::
 (242,fP "_law_stand" (hs 42) .none (vS "law_struckdeeds_k40_lifted" 423) 241) ::
 (243,tO #[]) ::
 (244,nF #[]) ::
 (245,gP "_law_kinds" (hs 43)) ::
 (246,kPz "_law_kinds" 509 510 511 177 1 3 (.ref 243) 181 (.ref 244) .none .none (.ref 245) 512 177 513) ::
 (247,fP "_law_kinds" (hs 43) .none (vS "law_struckdeeds_k40_lifted" 423) 246) ::
 (248,tO #[]) ::
 (249,nF #[]) ::
 (250,tO #[(vS "_law_one" 518),(vS "_law_other" 519),(vS "_law_here" 520),(vS "_law_there" 521),(vS "_law_name" 522),(vS "_law_both" 523)]) ::
 (251,tO #[]) ::
 (252,gP "_law_touch" (hs 44)) ::
 (253,kPz "_law_touch" 515 516 517 186 2 3 (.ref 248) 181 (.ref 249) (.ref 250) (.ref 251) (.ref 252) 524 186 525) ::
 (254,fP "_law_touch" (hs 44) .none (vS "law_struckdeeds_k40_lifted" 423) 253) ::
 (255,tO #[]) ::
 (256,nF #[]) ::
 (257,gP "_law_alike" (hs 45)) ::
 (258,kPz "_law_alike" 527 528 529 194 2 3 (.ref 255) 181 (.ref 256) .none .none (.ref 257) 530 194 531) ::
 (259,fP "_law_alike" (hs 45) .none (vS "law_struckdeeds_k40_lifted" 423) 258) ::
 (260,tO #[]) ::
 (261,nF #[]) ::
 (262,gP "_law_lifted" (hs 46)) ::
 (263,kPz "_law_lifted" 533 534 535 202 3 3 (.ref 260) 181 (.ref 261) .none .none (.ref 262) 536 202 537) ::
 (264,fP "_law_lifted" (hs 46) .none (vS "law_struckdeeds_k40_lifted" 423) 263) ::
 (265,tO #[]) ::
 (266,nF #[]) ::
 (267,gP "_law_pair" (hs 47)) ::
 (268,kPz "_law_pair" 539 540 541 211 2 3 (.ref 265) 181 (.ref 266) .none .none (.ref 267) 542 211 543) ::
 (269,fP "_law_pair" (hs 47) .none (vS "law_struckdeeds_k40_lifted" 423) 268) ::
 (270,tO #[]) ::
 (271,nF #[]) ::
 (272,tO #[(vS "_law_script" 548),(vS "_law_cells" 549),(vS "_law_book_here" 550),(vS "_law_kept" 551),(vS "_law_cell" 552),(vS "_law_pack" 553),(vS "_law_turn" 554),(vS "_law_one" 555),(vS "_law_other" 556),(vS "_law_due" 557)]) ::
 (273,tO #[]) ::
 (274,gP "law" (hs 48)) ::
 (275,kPz "law" 545 546 547 226 1 3 (.ref 270) 181 (.ref 271) (.ref 272) (.ref 273) (.ref 274) 558 226 559) ::
 (276,fP "law" (hs 48) .none (vS "law_struckdeeds_k40_lifted" 423) 275)::[])
noncomputable abbrev hX5 (w:World) (os:OsState):PySem.W.SharedT:=⟨hT5 w.params,277,{ },⟨[]⟩,{ },561,os⟩
noncomputable abbrev hX6 (w:World) (os:OsState):PySem.W.SharedT:=⟨hT5 w.params,277,{ },⟨[]⟩,{ },561,os⟩
noncomputable def hg (P:Params) (a:Nat):Obj:=((hT5 P).get a).getD default
noncomputable def hK:Params->PySem.W.Frag:=fun P=>
 (nat_lit 2,hg P 2) ::
 (nat_lit 3,hg P 3) ::
 (nat_lit 20,hg P 20) ::
 (nat_lit 21,fP "is_whole" GM .none (vS "struckdeeds.words" 187) 20) ::
 (nat_lit 27,hg P 27) ::
 (nat_lit 28,fP "is_within" EW .none (vS "struckdeeds.words" 187) 27) ::
 (nat_lit 32,hg P 32) ::
 (nat_lit 33,fP "rises" KC .none (vS "struckdeeds.words" 187) 32) ::
 (nat_lit 34,(⟨(.type "dict"),none,(.dict #[eS P "put" 213 (vS "npk" 214),eS P "take" 215 (vS "n" 216),eS P "move" 217 (vS "np" 218),eS P "count" 219 (vS "nk" 220),eS P "name" 221 (vS "nn" 222),eS P "split" 223 (vS "nnpk" 224),eS P "join" 225 (vS "nn" 226)] 7),#[]⟩:Obj)) ::
 (nat_lit 40,hg P 40) ::
 (nat_lit 41,fP "form_of" IQ .none (vS "struckdeeds.deeds" 211) 40) ::
 (nat_lit 47,hg P 47) ::
 (nat_lit 48,fP "names_in" GN .none (vS "struckdeeds.deeds" 211) 47) ::
 (nat_lit 54,hg P 54) ::
 (nat_lit 55,fP "made_by" IR .none (vS "struckdeeds.deeds" 211) 54) ::
 (nat_lit 59,hg P 59) ::
 (nat_lit 60,fP "must_stand" CN .none (vS "struckdeeds.deeds" 211) 59) ::
 (nat_lit 69,hg P 69) ::
 (nat_lit 70,(⟨(.type "type"),none,(.cls (.mk "StrikeError" [(.type "ValueError")] [(.ref 70),(.type "ValueError"),(.type "Exception"),(.type "BaseException"),(.type "object")] 69 "StrikeError" true [] [(.ref 90),(.ref 102)] false none false)),#[(some (.ref 61)),none,(some (vS "StrikeError" 264)),(some (vS "StrikeError" 272)),(some (.builtin "ValueError.__new__")),(some (.bool true))]⟩:Obj)) ::
 (nat_lit 71,hg P 71) ::
 (nat_lit 89,hg P 89) ::
 (nat_lit 90,hg P 90) ::
 (nat_lit 101,hg P 101) ::
 (nat_lit 102,hg P 102) ::
 (nat_lit 108,hg P 108) ::
 (nat_lit 109,fP "makers" FV .none (vS "struckdeeds.books" 323) 108) ::
 (nat_lit 113,hg P 113) ::
 (nat_lit 114,fP "deeds_of" EH .none (vS "struckdeeds.books" 323) 113) ::
 (nat_lit 120,hg P 120) ::
 (nat_lit 121,fP "is_number" EX .none (vS "struckdeeds.books" 323) 120) ::
 (nat_lit 125,hg P 125) ::
 (nat_lit 126,fP "needs" KB .none (vS "struckdeeds.books" 323) 125) ::
 (nat_lit 130,hg P 130) ::
 (nat_lit 131,fP "is_stand" D3 .none (vS "struckdeeds.stands" 351) 130) ::
 (nat_lit 137,hg P 137) ::
 (nat_lit 138,fP "refuse_no_stand" BG .none (vS "struckdeeds.stands" 351) 137) ::
 (nat_lit 139,tO #[(vS "count" 369),(vS "split" 370),(vS "join" 371)]) ::
 (nat_lit 143,hg P 143) ::
 (nat_lit 144,fP "touch" KF .none (vS "struckdeeds.touches" 367) 143) ::
 (nat_lit 150,hg P 150) ::
 (nat_lit 151,fP "may_share" EY .none (vS "struckdeeds.touches" 367) 150) ::
 (nat_lit 157,hg P 157) ::
 (nat_lit 158,fP "use_of" KD .none (vS "struckdeeds.touches" 367) 157) ::
 (nat_lit 164,hg P 164) ::
 (nat_lit 165,fP "lifted" KG .none (vS "struckdeeds.ways" 397) 164) ::
 (nat_lit 171,hg P 171) ::
 (nat_lit 172,fP "lifted_between" BR .none (vS "struckdeeds.ways" 397) 171) ::
 (nat_lit 176,hg P 176) ::
 (nat_lit 177,fP "lifts_by_ends" B5 .none (vS "struckdeeds.ways" 397) 176) ::
 (nat_lit 183,hg P 183) ::
 (nat_lit 184,fP "_law_mixed" E5 .none (vS "law_struckdeeds_k40_lifted" 423) 183) ::
 (nat_lit 190,hg P 190) ::
 (nat_lit 191,fP "_law_take" EZ .none (vS "law_struckdeeds_k40_lifted" 423) 190) ::
 (nat_lit 195,hg P 195) ::
 (nat_lit 196,fP "_law_names" BS .none (vS "law_struckdeeds_k40_lifted" 423) 195) ::
 (nat_lit 200,hg P 200) ::
 (nat_lit 201,fP "_law_deed" DN .none (vS "law_struckdeeds_k40_lifted" 423) 200) ::
 (nat_lit 205,hg P 205) ::
 (nat_lit 206,fP "_law_after" BU .none (vS "law_struckdeeds_k40_lifted" 423) 205) ::
 (nat_lit 210,hg P 210) ::
 (nat_lit 211,fP "_law_start" CO .none (vS "law_struckdeeds_k40_lifted" 423) 210) ::
 (nat_lit 217,hg P 217) ::
 (nat_lit 218,fP "_law_book" F0 .none (vS "law_struckdeeds_k40_lifted" 423) 217) ::
 (nat_lit 224,hg P 224) ::
 (nat_lit 225,fP "_law_must" F3 .none (vS "law_struckdeeds_k40_lifted" 423) 224) ::
 (nat_lit 231,hg P 231) ::
 (nat_lit 232,fP "_law_made" F4 .none (vS "law_struckdeeds_k40_lifted" 423) 231) ::
 (nat_lit 236,hg P 236) ::
 (nat_lit 237,fP "_law_needs" CP .none (vS "law_struckdeeds_k40_lifted" 423) 236) ::
 (nat_lit 241,hg P 241) ::
 (nat_lit 242,fP "_law_stand" CQ .none (vS "law_struckdeeds_k40_lifted" 423) 241) ::
 (nat_lit 246,hg P 246) ::
 (nat_lit 247,fP "_law_kinds" CS .none (vS "law_struckdeeds_k40_lifted" 423) 246) ::
 (nat_lit 253,hg P 253) ::
 (nat_lit 254,fP "_law_touch" E6 .none (vS "law_struckdeeds_k40_lifted" 423) 253) ::
 (nat_lit 258,hg P 258) ::
 (nat_lit 259,fP "_law_alike" BV .none (vS "law_struckdeeds_k40_lifted" 423) 258) ::
 (nat_lit 263,hg P 263) ::
 (nat_lit 264,fP "_law_lifted" B2 .none (vS "law_struckdeeds_k40_lifted" 423) 263) ::
 (nat_lit 268,hg P 268) ::
 (nat_lit 269,fP "_law_pair" DO .none (vS "law_struckdeeds_k40_lifted" 423) 268) ::
 (nat_lit 275,hg P 275) ::
 (nat_lit 276,fP "law" YB .none (vS "law_struckdeeds_k40_lifted" 423) 275)::[]
def hA:List Addr:=[2,3,20,21,27,28,32,33,34,40,41,47,48,54,55,59,60,69,70,71,89,90,101,102,108,109,113,114,120,121,125,126,130,131,137,138,139,143,144,150,151,157,158,164,165,171,172,176,177,183,184,190,191,195,196,200,201,205,206,210,211,217,218,224,225,231,232,236,237,241,242,246,247,253,254,258,259,263,264,268,269,275,276]
theorem hE:∀P,hA=(hK P).map (·.1):=fun _=>by kernel_rfl
theorem hp1 (w:World):(fun os=>PySem.W.topGo treeTable PySem.Challenge.pw_struckdeeds_k40_lifted w 11 (a3W (a0X 6)) 12 ⟨a4K w.params,⟨[]⟩,b4X,b5V,os⟩ (PySem.W.topStub PySem.Challenge.pw_struckdeeds_k40_lifted))=fun os=>some ((hX1 w os).abs,⟨denote treeTable hC,hC,{ line:=0,col:=0,endLine:=0,endCol:=0 },hF⟩):=by kernel_rfl
theorem hp2 (w:World):(fun os=>b1W treeTable PySem.Challenge.pw_struckdeeds_k40_lifted w 11 (a3W (a0X 6)) 1 1 (hX1 w os) (PySem.W.blockOf hB hN hC { line:=0,col:=0,endLine:=0,endCol:=0 } hF))=fun os=>some (.next,hX2 w os,hC,{ line:=0,col:=0,endLine:=0,endCol:=0 }):=by kernel_rfl
def hQ3:List Stmt:=(hB.drop 0).take 12
abbrev r6 (w:World):Prop:=(fun os=>b1W treeTable PySem.Challenge.pw_struckdeeds_k40_lifted w 11 (a3W (a0X 6)) 1 528 (hX2 w os) (b3Q hQ3 hN hC { line:=0,col:=0,endLine:=0,endCol:=0 } hF))=fun os=>some (.next,hX3 w os,hC,{ line:=24,col:=0,endLine:=25,endCol:=8 })
theorem aE (w:World):(fun os=>b1W treeTable PySem.Challenge.pw_struckdeeds_k40_lifted (w.withFollow "special-get-raises" false) 11 (a3W (a0X 6)) 1 528 (hX2 (w.withFollow "special-get-raises" false) os) (b3Q hQ3 hN hC { line:=0,col:=0,endLine:=0,endCol:=0 } hF))=fun os=>some (.next,hX3 (w.withFollow "special-get-raises" false) os,hC,{ line:=24,col:=0,endLine:=25,endCol:=8 }):=by kernel_rfl
theorem fG (w:World):(fun os=>b1W treeTable PySem.Challenge.pw_struckdeeds_k40_lifted (w.withFollow "special-get-raises" true) 11 (a3W (a0X 6)) 1 528 (hX2 (w.withFollow "special-get-raises" true) os) (b3Q hQ3 hN hC { line:=0,col:=0,endLine:=0,endCol:=0 } hF))=fun os=>some (.next,hX3 (w.withFollow "special-get-raises" true) os,hC,{ line:=24,col:=0,endLine:=25,endCol:=8 }):=by kernel_rfl
theorem hp3:∀w:World,r6 w:=PySem.W.byRow2 "special-get-raises" aE fG
def hQ4:List Stmt:=(hB.drop 12).take 15
theorem hp4 (w:World):(fun os=>b1W treeTable PySem.Challenge.pw_struckdeeds_k40_lifted w 11 (a3W (a0X 6)) 1 751 (hX3 w os) (b3Q hQ4 hN hC { line:=24,col:=0,endLine:=25,endCol:=8 } hF))=fun os=>some (.next,hX4 w os,hC,{ line:=60,col:=0,endLine:=63,endCol:=69 }):=by kernel_rfl
def hQ5:List Stmt:=(hB.drop 27).take 22
theorem hp5 (w:World):(fun os=>b1W treeTable PySem.Challenge.pw_struckdeeds_k40_lifted w 11 (a3W (a0X 6)) 1 597 (hX4 w os) (b3Q hQ5 hN hC { line:=60,col:=0,endLine:=63,endCol:=69 } hF))=fun os=>some (.next,hX5 w os,hC,{ line:=226,col:=0,endLine:=239,endCol:=15 }):=by kernel_rfl
theorem hp6 (w:World):(fun os=>a7J treeTable PySem.Challenge.pw_struckdeeds_k40_lifted w 11 (a3W (a0X 6)) 2 (hX5 w os).abs (b4K [] hN hC { line:=226,col:=0,endLine:=239,endCol:=15 } hF))=fun os=>some (hX6 w os).abs:=by kernel_rfl
theorem hR1:hB=(hQ3++(hQ4++(hQ5++[]))):=by kernel_rfl
theorem hr6 (w:World) (os:OsState):a7J treeTable PySem.Challenge.pw_struckdeeds_k40_lifted w 11 (a3W (a0X 6)) 2 (hX5 w os).abs (b4K [] hN hC { line:=226,col:=0,endLine:=239,endCol:=15 } hF)=some (hX6 w os).abs:=congrFun (hp6 w) os
theorem hr5 (w:World) (os:OsState):a7J treeTable PySem.Challenge.pw_struckdeeds_k40_lifted w 11 (a3W (a0X 6)) (597+2) (hX4 w os).abs (b4K (hQ5++[]) hN hC { line:=60,col:=0,endLine:=63,endCol:=69 } hF)=some (hX6 w os).abs:=PySem.W.piece_app (n:=597) (N:=2) (s:=(hX4 w os).abs) (s':=(hX5 w os).abs) (r:=(hX6 w os).abs) (l:=hQ5) (rest:=[]) (c:=hC) (pos:={ line:=60,col:=0,endLine:=63,endCol:=69 }) (p':={ line:=226,col:=0,endLine:=239,endCol:=15 }) (env:=hN) (q:={ line:=0,col:=0,endLine:=0,endCol:=0 }) (b5W (congrFun (hp5 w) os)) (hr6 w os)
theorem hr4 (w:World) (os:OsState):a7J treeTable PySem.Challenge.pw_struckdeeds_k40_lifted w 11 (a3W (a0X 6)) (751+(597+2)) (hX3 w os).abs (b4K (hQ4++(hQ5++[])) hN hC { line:=24,col:=0,endLine:=25,endCol:=8 } hF)=some (hX6 w os).abs:=PySem.W.piece_app (n:=751) (N:=(597+2)) (s:=(hX3 w os).abs) (s':=(hX4 w os).abs) (r:=(hX6 w os).abs) (l:=hQ4) (rest:=(hQ5++[])) (c:=hC) (pos:={ line:=24,col:=0,endLine:=25,endCol:=8 }) (p':={ line:=60,col:=0,endLine:=63,endCol:=69 }) (env:=hN) (q:={ line:=0,col:=0,endLine:=0,endCol:=0 }) (b5W (congrFun (hp4 w) os)) (hr5 w os)
theorem hr3 (w:World) (os:OsState):a7J treeTable PySem.Challenge.pw_struckdeeds_k40_lifted w 11 (a3W (a0X 6)) (528+(751+(597+2))) (hX2 w os).abs (b4K (hQ3++(hQ4++(hQ5++[]))) hN hC { line:=0,col:=0,endLine:=0,endCol:=0 } hF)=some (hX6 w os).abs:=PySem.W.piece_app (n:=528) (N:=(751+(597+2))) (s:=(hX2 w os).abs) (s':=(hX3 w os).abs) (r:=(hX6 w os).abs) (l:=hQ3) (rest:=(hQ4++(hQ5++[]))) (c:=hC) (pos:={ line:=0,col:=0,endLine:=0,endCol:=0 }) (p':={ line:=24,col:=0,endLine:=25,endCol:=8 }) (env:=hN) (q:={ line:=0,col:=0,endLine:=0,endCol:=0 }) (b5W (congrFun (hp3 w) os)) (hr4 w os)
theorem hr2 (w:World) (os:OsState):a7J treeTable PySem.Challenge.pw_struckdeeds_k40_lifted w 11 (a3W (a0X 6)) (1+(528+(751+(597+2)))) (hX1 w os).abs ⟨denote treeTable hC,hC,{ line:=0,col:=0,endLine:=0,endCol:=0 },hF⟩=some (hX6 w os).abs:=PySem.W.piece_block (n:=1) (N:=(528+(751+(597+2)))) (s:=(hX1 w os).abs) (s':=(hX2 w os).abs) (r:=(hX6 w os).abs) (b:=hB) (env:=hN) (c:=hC) (pos:={ line:=0,col:=0,endLine:=0,endCol:=0 }) (p':={ line:=0,col:=0,endLine:=0,endCol:=0 }) (q:={ line:=0,col:=0,endLine:=0,endCol:=0 }) (b5W (congrFun (hp2 w) os)) (by rw[hR1];exact hr3 w os)
noncomputable def hH:Params->Heap:=fun P=>PySem.W.absHeap (hT5 P) 277 { }
theorem hr1 (w:World) (os:OsState):a7J treeTable PySem.Challenge.pw_struckdeeds_k40_lifted w 11 (a3W (a0X 6)) (12+(1+(528+(751+(597+2))))) ⟨a4K w.params,⟨[]⟩,b4X,b5V,os⟩ (PySem.W.topStub PySem.Challenge.pw_struckdeeds_k40_lifted)=some (hX6 w os).abs:=PySem.W.go_top (n:=12) (N:=(1+(528+(751+(597+2))))) (s':=(hX1 w os).abs) (t':=⟨denote treeTable hC,hC,{ line:=0,col:=0,endLine:=0,endCol:=0 },hF⟩) (congrFun (hp1 w) os) (hr2 w os)
theorem hR (w:World) (os:OsState):a7J treeTable PySem.Challenge.pw_struckdeeds_k40_lifted w 11 (a3W (a0X 6)) (12+(1+(528+(751+(597+2))))) ⟨a4K w.params,⟨[]⟩,b4X,b5V,os⟩ (PySem.W.topStub PySem.Challenge.pw_struckdeeds_k40_lifted)=some ⟨hH w.params,⟨[]⟩,{ },561,os⟩:=(hr1 w os).trans (by kernel_rfl)
theorem hZ (w:World):(fun os=>((PySem.W.staticsOk (PySem.importedModules PySem.Challenge.pw_struckdeeds_k40_lifted.main.body) (a4K w.params) (hH w.params)&&PySem.W.namesBound PySem.Challenge.pw_struckdeeds_k40_lifted (hH w.params)&&PySem.W.gensDone ⟨hH w.params,⟨[]⟩,{ },561,os⟩&&PySem.W.laidKept (a4K w.params) (hH w.params)),PySem.W.openSeen hV [a0Q "FORMS"] (PySem.importedModules PySem.Challenge.pw_struckdeeds_k40_lifted.main.body) (fun s=>PySem.W.xlAt hV [] s&&PySem.W.recOk (b2X (b0Z (b2Z PySem.Challenge.rw_struckdeeds_k40_lifted))) s) true ⟨hH w.params,⟨[]⟩,{ },561,os⟩,b5Q (a5W hK hA hE) ⟨hH w.params,⟨[]⟩,{ },561,os⟩))=fun _=>(true,PySem.W.openGood hV [a0Q "FORMS"],b4V (a5W hK hA hE) w):=by kernel_rfl
theorem hO:PySem.W.opening PySem.Challenge.pw_struckdeeds_k40_lifted=PySem.W.plainProg PySem.Challenge.pw_struckdeeds_k40_lifted.main.scope.names:=by kernel_rfl
theorem hG (w:World):((a4K w.params).isNs mainGlobals&&(⟨[]⟩:Array GenState).size==0,(a4K w.params).objs.size,(a4K w.params).nsMap mainGlobals (a0Q "__annotations__"))=(true,11,a3W (a0X 6)):=by kernel_rfl
theorem hJ (s:Shared):PySem.fenceModules? PySem.Challenge.pw_struckdeeds_k40_lifted s=some s:=by kernel_rfl
theorem hL:PySem.W.LeftO PySem.Challenge.pw_struckdeeds_k40_lifted hV [a0Q "FORMS"] (fun s=>PySem.W.xlAt hV [] s&&PySem.W.recOk (b2X (b0Z (b2Z PySem.Challenge.rw_struckdeeds_k40_lifted))) s) (b5Q (a5W hK hA hE)) (b4V (a5W hK hA hE)) 3872:=
 @PySem.W.LeftO.of_pieces PySem.Challenge.pw_struckdeeds_k40_lifted hV [a0Q "FORMS"] (fun s=>PySem.W.xlAt hV [] s&&PySem.W.recOk (b2X (b0Z (b2Z PySem.Challenge.rw_struckdeeds_k40_lifted))) s) _ (b5Q (a5W hK hA hE)) (b4V (a5W hK hA hE)) 3872 true a4K hH ⟨[]⟩ ⟨[]⟩ b4X { } b5V 561 11 (a3W (a0X 6)) (12+(1+(528+(751+(597+2))))) (PySem.W.boot_open hO (by decide) hJ) hG hR (by decide) hZ
theorem hS:PySem.W.OpenLaw.wellSaid PySem.Challenge.rw_struckdeeds_k40_lifted=true:=by kernel_rfl
set_option hygiene false
local macro_rules | `(tactic| walk_at "lc")=>`(tactic| first | exact Or.inl rfl | exact Or.inr rfl | exact Or.inr (Or.inl rfl) | exact Or.inr (Or.inr rfl))
local macro_rules | `(tactic| walk_at "or")=>`(tactic| first | exact .inl rfl | exact .inr rfl | assumption)
local macro_rules | `(tactic| walk_at "q")=>`(tactic| first | ((with_reducible show PSs _ [] _);exact @fQ _) | ((with_reducible show PSs _ [_] _);exact @X2 _ _ _ (by walk_at "s")) | ((with_reducible show PSs _ (_::_) _);exact @T6 _ _ _ _ _ (by walk_at "s") (by walk_at "q")))
local macro_rules | `(tactic| walk_at "s")=>`(tactic| first | ((with_reducible show PS _ (.Assign [.Name ..] (.DictComp ..) _) _);exact @fF _ _ _ _ _ _ _ _ _ _ _ _ _ _ _ _ _ _ _ rfl hu1 (by assumption) (OD (by rfl)) (by walk_at "lc") (by walk_at "cs") (by walk_at "n") (fun C s' H' ex' pn'=>⟨(by walk_at "g"),(by walk_at "u"),(by walk_at "e"),(by walk_at "e")⟩) rfl (by walk_at "or") (by intro _;rfl)) | ((with_reducible show PS _ (.Assign [.Name ..] (.ListComp ..) _) _);exact @gJ _ _ _ _ _ _ _ _ _ _ _ _ _ _ _ _ _ rfl (by assumption) (OD (by rfl)) (by walk_at "lc") (by walk_at "cs") (by walk_at "n") (fun C s' H' ex' pn'=>⟨(by walk_at "g"),(by walk_at "u"),(by walk_at "e")⟩) rfl (by walk_at "or") (by intro _;rfl)) | ((with_reducible show PS _ (.Assign [.Name ..] ..) _);exact @l5 _ _ _ _ _ _ _ (by assumption) (OD (by rfl)) (by walk_at "lc") (by walk_at "e") (by rfl) (by walk_at "or")) | ((with_reducible show PS _ (.If ..) _);first | walk_at "z" | exact @jK _ _ _ _ _ _ _ _ (by walk_at "t") (by walk_at "q") (by walk_at "q")) | ((with_reducible show PS _ (.Return (some _) _) _);exact @kZ _ _ _ _ (by walk_at "e")) | ((with_reducible show PS _ (.For ..) _);exact @l7 _ _ _ _ _ _ _ _ PassesOwn.never rfl (by walk_at "n") (by walk_at "g") (by walk_at "q") (by intro _;rfl)) | ((with_reducible show PS _ (.Expr ..) _);exact @fR _ _ _ _ (by walk_at "e") (by rfl)) | ((with_reducible show PS _ (.Continue _) _);exact @T7 _ _) | ((with_reducible show PS _ (.Raise ..) _);exact @aO _ _) | walk_at "x")
local macro_rules | `(tactic| walk_at "e")=>`(tactic| first | ((with_reducible show PE _ (.Name ..) _);first | exact @pvx _ _ _ _ (by rfl) (by walk_at "lc") (by decide) (by decide) | exact @G6 _ _ (.ty "int") _ _ (by rfl) (by assumption) PyProof.Rows.boot_int rfl (by decide) (by decide) | exact @G6 _ _ (.ty "str") _ _ (by rfl) (by assumption) PyProof.Rows.boot_str rfl (by decide) (by decide) | exact @G6 _ _ (.ty "bool") _ _ (by rfl) (by assumption) PyProof.Rows.boot_bool rfl (by decide) (by decide) | exact @G6 _ _ (.ty "list") _ _ (by rfl) (by assumption) b5K rfl (by decide) (by decide) | exact @G6 _ _ (.ty "tuple") _ _ (by rfl) (by assumption) PyProof.Rows.boot_tuple rfl (by decide) (by decide) | exact @G6 _ _ (.ty "dict") _ _ (by rfl) (by assumption) PyProof.Rows.boot_dict rfl (by decide) (by decide) | exact @G6 _ _ (.ty "ValueError") _ _ (by rfl) (by assumption) PyProof.Rows.boot_ValueError rfl (by decide) (by decide)) | ((with_reducible show PE _ (.ListComp ..) _);first | ((with_reducible show PE _ (.ListComp _ [_,_] ..) _);exact @eQ _ _ _ _ _ _ _ _ _ _ _ _ _ _ _ rfl (by walk_at "cs") (by walk_at "n") (fun C s' H' ex' pn'=>⟨(by walk_at "g"),(by walk_at "n"),(by walk_at "g"),(by walk_at "e")⟩) (by intro _;rfl) (by intro _ _;rfl)) | exact @gI _ _ _ _ _ _ _ _ _ _ _ _ _ rfl (by walk_at "cs") (by walk_at "n") (fun C s' H' ex' pn'=>⟨(by walk_at "g"),(by walk_at "u"),(by walk_at "e")⟩) (by intro _;rfl)) | ((with_reducible show PE _ (.DictComp ..) _);exact @cU _ _ _ _ _ _ _ _ _ _ _ _ _ _ _ rfl hu1 (by walk_at "cs") (by walk_at "n") (fun C s' H' ex' pn'=>⟨(by walk_at "g"),(by walk_at "u"),(by walk_at "e"),(by walk_at "e")⟩) (by intro _;rfl)) | ((with_reducible show PE _ (.Constant ..) _);first | ((with_reducible show PE _ (.Constant (.int _) ..) _);exact @kP _ _ _ _) | ((with_reducible show PE _ (.Constant (.str _) ..) _);exact @kR _ _ _ _) | ((with_reducible show PE _ (.Constant (.bool _) ..) _);exact @oH _ _ _ _) | ((with_reducible show PE _ (.Constant .none ..) _);exact @kQ _ _ _)) | ((with_reducible show PE _ (.Call ..) _);first | walk_at "y" | ((with_reducible show PE _ (.Call (.Name (a0Q "len") _) ..) _);exact @BW _ _ _ _ _ _ _ _ _ (@qO _ K rfl) (by rfl) (by assumption) PySem.boot_len (by walk_at "a") (by decide) (by decide) (by rfl) (by rfl)) | ((with_reducible show PE _ (.Call (.Name (a0Q "isinstance") _) ..) _);exact @BW _ _ _ _ _ _ _ _ _ (@qR _ K rfl) (by rfl) (by assumption) PyProof.Rows.boot_isinstance (by walk_at "a") (by decide) (by decide) (by rfl) (by rfl)) | ((with_reducible show PE _ (.Call (.Name (a0Q "all") _) ..) _);exact @BW _ _ _ _ _ _ _ _ _ (@qP _ K rfl rfl) (by rfl) (by assumption) PyProof.Rows.boot_all (by walk_at "a") (by decide) (by decide) (by rfl) (by rfl)) | ((with_reducible show PE _ (.Call (.Name (a0Q "any") _) ..) _);exact @BW _ _ _ _ _ _ _ _ _ (@qQ _ K rfl rfl) (by rfl) (by assumption) PyProof.Rows.boot_any (by walk_at "a") (by decide) (by decide) (by rfl) (by rfl)) | ((with_reducible show PE _ (.Call (.Name (a0Q "sorted") _) ..) _);exact @BW _ _ _ _ _ _ _ _ _ (@nL _ K rfl rfl) (by rfl) (by assumption) a9J (by walk_at "a") (by decide) (by decide) (by rfl) (by rfl)) | ((with_reducible show PE _ (.Call (.Name (a0Q "divmod") _) ..) _);exact @BW _ _ _ _ _ _ _ _ _ (@iK _ K rfl) (by rfl) (by assumption) PyProof.Rows.boot_divmod (by walk_at "a") (by decide) (by decide) (by rfl) (by rfl)) | ((with_reducible show PE _ (.Call (.Name (a0Q "sum") _) ..) _);exact @BW _ _ _ _ _ _ _ _ _ (@qY _ K rfl rfl) (by rfl) (by assumption) PyProof.Rows.boot_sum (by walk_at "a") (by decide) (by decide) (by rfl) (by rfl)) | ((with_reducible show PE _ (.Call (.Name (a0Q "tuple") _) ..) _);exact @KW _ _ _ _ _ _ _ _ _ (@n6 _ K rfl) (by rfl) (by assumption) PyProof.Rows.boot_tuple (by walk_at "a") (by decide) (by decide) (by rfl) (by rfl)) | ((with_reducible show PE _ (.Call (.Name (a0Q "int") _) ..) _);exact @KW _ _ _ _ _ _ _ _ _ (@qV _ K rfl) (by rfl) (by assumption) PyProof.Rows.boot_int (by walk_at "a") (by decide) (by decide) (by rfl) (by rfl)) | ((with_reducible show PE _ (.Call (.Name ..) ..) _);exact @pO _ K P w mg base _ _ _ _ _ _ _ _ _ rfl rfl rfl rfl rfl (by with_reducible assumption) (hr.mono (by decide)) rfl (by walk_at "a") (by decide) (by rfl) (by rfl)) | ((with_reducible show PE _ (.Call (.Attribute _ (a0Q "append") _) ..) _);exact @kBm _ K _ _ _ _ _ _ _ _ _ _ _ rfl PySem.F.plainAttrs_list PySem.F.slot_list_append PySem.F.type_list_append (@cH _) (by walk_at "e") (by walk_at "a") (by rfl) (by rfl) (by rfl) (by rfl) (by rfl)) | walk_at "x") | ((with_reducible show PE _ (.BinOp ..) _);first | ((with_reducible show PE _ (.BinOp _ .Add ..) _);exact @IS _ _ _ _ _ _ _ _ (@pQ _ K rfl) (by walk_at "e") (by walk_at "e")) | ((with_reducible show PE _ (.BinOp _ .Sub ..) _);exact @IS _ _ _ _ _ _ _ _ (@lC _) (by walk_at "e") (by walk_at "e")) | ((with_reducible show PE _ (.BinOp _ .Mod ..) _);exact @IS _ _ _ _ _ _ _ _ (@lD _) (by walk_at "e") (by walk_at "e")) | ((with_reducible show PE _ (.BinOp _ .FloorDiv ..) _);exact @IS _ _ _ _ _ _ _ _ (@bK _) (by walk_at "e") (by walk_at "e")) | ((with_reducible show PE _ (.BinOp _ .Pow ..) _);exact @IS _ _ _ _ _ _ _ _ (@lE _) (by walk_at "e") (by walk_at "e")) | ((with_reducible show PE _ (.BinOp _ .LShift ..) _);exact @IS _ _ _ _ _ _ _ _ (@lG _) (by walk_at "e") (by walk_at "e")) | ((with_reducible show PE _ (.BinOp _ .RShift ..) _);exact @IS _ _ _ _ _ _ _ _ (@lH _) (by walk_at "e") (by walk_at "e"))) | ((with_reducible show PE _ (.Compare ..) _);first | walk_at "y" | ((with_reducible show PE _ (.Compare _ [.Eq] ..) _);exact @D5 _ _ _ _ _ _ _ _ (@kEq _ K rfl hu) (by walk_at "e") (by walk_at "e") (@F6 _ _ (by decide) (by decide))) | ((with_reducible show PE _ (.Compare _ [.NotEq] ..) _);exact @D5 _ _ _ _ _ _ _ _ (@kNe _ K rfl hu) (by walk_at "e") (by walk_at "e") (@F6 _ _ (by decide) (by decide))) | ((with_reducible show PE _ (.Compare _ [.Lt] ..) _);exact @D5 _ _ _ _ _ _ _ _ (@bQ _) (by walk_at "e") (by walk_at "e") (@F6 _ _ (by decide) (by decide))) | ((with_reducible show PE _ (.Compare _ [.IsNot] ..) _);exact @D5 _ _ _ _ _ _ _ _ (@XO _) (by walk_at "e") (by walk_at "e") (@F6 _ _ (by decide) (by decide))) | ((with_reducible show PE _ (.Compare _ [.Gt] ..) _);exact @D5 _ _ _ _ _ _ _ _ (@jN _) (by walk_at "e") (by walk_at "e") (@F6 _ _ (by decide) (by decide)))) | ((with_reducible show PE _ (.Subscript ..) _);first | ((with_reducible show PE _ (.Subscript _ (.Slice _ _ none _) _) _);exact @aW _ _ _ _ _ _ _ _ _ _ (@qS _ K rfl) (by walk_at "e") (by walk_at "o") (by walk_at "o")) | walk_at "y" | exact @oY _ _ _ _ _ _ _ (@kIx _ K rfl) (by walk_at "e") (by walk_at "e") (fun _ _=>rfl)) | ((with_reducible show PE _ (.Tuple ..) _);exact @lL _ _ _ _ _ (by walk_at "a")) | ((with_reducible show PE _ (.List ..) _);exact @lM _ _ _ _ (by walk_at "a")) | ((with_reducible show PE _ (.IfExp ..) _);exact @aM _ _ _ _ _ _ _ _ (by walk_at "t") (by walk_at "e") (by walk_at "e")) | ((with_reducible show PE _ (.BoolOp ..) _);first | ((with_reducible show PE _ (.BoolOp _ [_] _) _);exact @kU _ _ _ _ _ (by walk_at "e")) | exact @kW _ _ _ _ _ _ _ (by walk_at "e") (by walk_at "e")) | ((with_reducible show PE _ (.UnaryOp ..) _);first | ((with_reducible show PE _ (.UnaryOp .Not ..) _);exact @kX _ _ _ _ (by walk_at "e")) | exact @oR _ _ _ _ _ _ (@lI _) (by walk_at "e")) | walk_at "x")
local macro_rules | `(tactic| walk_at "t")=>`(tactic| first | ((with_reducible show PT _ (.Compare ..) _);first | walk_at "y" | ((with_reducible show PT _ (.Compare _ [.Eq] ..) _);exact @BN _ _ _ _ _ _ _ _ (@kEq _ K rfl hu) (by walk_at "e") (by walk_at "e") (@F6 _ _ (by decide) (by decide))) | ((with_reducible show PT _ (.Compare _ [.NotEq] ..) _);exact @BN _ _ _ _ _ _ _ _ (@kNe _ K rfl hu) (by walk_at "e") (by walk_at "e") (@F6 _ _ (by decide) (by decide))) | ((with_reducible show PT _ (.Compare _ [.Lt] ..) _);exact @BN _ _ _ _ _ _ _ _ (@bQ _) (by walk_at "e") (by walk_at "e") (@F6 _ _ (by decide) (by decide))) | ((with_reducible show PT _ (.Compare _ [.IsNot] ..) _);exact @BN _ _ _ _ _ _ _ _ (@XO _) (by walk_at "e") (by walk_at "e") (@F6 _ _ (by decide) (by decide))) | ((with_reducible show PT _ (.Compare _ [.Gt] ..) _);exact @BN _ _ _ _ _ _ _ _ (@jN _) (by walk_at "e") (by walk_at "e") (@F6 _ _ (by decide) (by decide))) | walk_at "x") | ((with_reducible show PT _ (.BoolOp ..) _);exact @L2.PW.pt _ _ _ (by walk_at "w")) | ((with_reducible show PT _ (.UnaryOp .Not ..) _);exact @kT _ _ _ _ (by walk_at "t")) | exact @kS _ _ _ (by walk_at "e") (by intro _;rfl))
local macro_rules | `(tactic| walk_at "w")=>`(tactic| first | ((with_reducible show PW _ (.BoolOp .Or ..) _);first | ((with_reducible show PW _ (.BoolOp _ [_] _) _);exact @pw_or1 _ _ _ _ (by walk_at "t")) | exact @pw_or _ _ _ _ _ _ _ (by walk_at "t") (by walk_at "w")) | ((with_reducible show PW _ (.BoolOp _ [_] _) _);exact @pw_and1 _ _ _ _ (by walk_at "t")) | exact @pw_and _ _ _ _ _ _ _ (by walk_at "t") (by walk_at "w"))
local macro_rules | `(tactic| walk_at "a")=>`(tactic| first | ((with_reducible show PA _ [] _);exact @lJ _) | exact @fY _ _ _ _ _ (by walk_at "e") (by walk_at "a") (by rfl))
local macro_rules | `(tactic| walk_at "o")=>`(tactic| first | ((with_reducible show PO _ none _);exact @g0 _) | exact @g6 _ _ _ (by walk_at "e"))
local macro_rules | `(tactic| walk_at "u")=>`(tactic| first | ((with_reducible show PTs _ [] _);exact @X9 _) | exact @gH _ _ _ (by walk_at "t"))
local macro_rules | `(tactic| walk_at "n")=>`(tactic| first | ((with_reducible show PI _ _ (.Call ..) _);first | ((with_reducible show PI _ _ (.Call (.Name (a0Q "range") _) [_] ..) _);exact @YI _ _ _ _ _ _ rfl (by assumption) (by walk_at "a") (by rfl)) | walk_at "x") | walk_at "y" | exact @pN _ K _ _ _ rfl (by walk_at "e"))
local macro_rules | `(tactic| walk_at "g")=>`(tactic| first | ((with_reducible show PG _ (.Name ..) _);exact @QV _ _ _ _ (by assumption) (OD (by rfl)) (by walk_at "lc") (by walk_at "or")) | walk_at "x")
local macro_rules | `(tactic| walk_at "j")=>`(tactic| first | ((with_reducible show PGs _ [] _);exact @fS _) | exact @aP _ _ _ _ _ (by walk_at "g") (by walk_at "j") (by rfl))
local macro_rules | `(tactic| walk_at "b1")=>`(tactic| exact @X2 _ _ _ (by walk_at "s"))
local macro_rules | `(tactic| walk_at "b2")=>`(tactic| exact @T6 _ _ _ _ _ (by walk_at "s") (by walk_at "q"))
local macro_rules | `(tactic| walk_at "dl")=>`(tactic| first
 | (with_reducible first | refine bO ?_ | refine dx_seq ?_ | refine bN ?_ | refine XE ?_ | refine bM ?_ | refine pJ ?_ | refine XD ?_ | refine XC ?_ | refine ds_setitem ?_ | refine dA ?_ | refine dx_if ?_ | refine dx_raise1 ?_ | refine dx_raise0 ?_ | refine dx_drop (dex_call ?_) | refine dx_set (dex_call ?_) | refine dx_ret (dex_call ?_) | refine dx_lift (bN ?_) | refine dx_lift (XE ?_) | refine dx_lift (bM ?_) | refine dx_lift (XD ?_) | refine dx_lift (XC ?_) | refine dx_lift (ds_setitem ?_) | refine dx_lift (dA ?_))
 | ((with_reducible apply mB);exact rfl)
 | (with_reducible first | refine mD ?_ | refine pB ?_ | refine mE ?_ | refine mF ?_ | refine pC ?_ | refine pD ?_ | refine pE ?_ | refine bL ?_ | refine gL ?_ | refine qM ?_ | refine mG ?_ | refine pF ?_ | refine mH ?_ | refine mI ?_ | refine mJ ?_ | refine de_or ?_ | refine mK ?_ | refine pG ?_ | refine mL ?_ | refine gM ?_ | refine pH ?_ | refine mM ?_ | refine pI ?_ | refine gR ?_ | refine gS ?_ | refine h7 ?_ | refine c7 ?_ | refine i5 ?_)
 | ((with_reducible refine n8 ?_ ?_);exact rfl)
 | ((with_reducible refine iO ?_ ?_);exact rfl)
 | (with_reducible first | refine pK ?_ | refine pL ?_ | refine qN ?_ | refine cA ?_ | refine i0 ?_)
 | ((with_reducible refine XF ?_ ?_);(first
     | ((with_reducible show CMul _ _);first | exact cC (by decide) (by decide) | exact cmul_l (by decide) (by decide) | exact cmul_l (by omega) (by omega))
     | ((with_reducible show jX _ _);first | exact⟨by decide,by decide⟩ | exact⟨by assumption,by assumption⟩)
     | ((with_reducible show lA _ _);exact⟨by decide,by decide,by decide⟩)
     | (show(0:Int) < _;first | decide | assumption | omega)))
 | ((with_reducible apply hX);(first | assumption | exact zU);exact rfl)
 | ((with_reducible apply qT);(first | assumption | exact zU);exact rfl)
 | ((with_reducible refine cK ?_ ?_);(first | exact CMul.ok (cC (by decide) (by decide)) | exact CMul.ok (cmul_l (by decide) (by decide))))
 | (with_reducible first | refine d2_isB ?_ | refine d2_notB ?_ | refine rd_max ?_ | refine rd_min ?_ | refine iL ?_ | refine cL ?_ | refine rd_abs ?_)
 | ((with_reducible refine bZ (b:=true) ?_ ?_);exact rfl)
 | ((with_reducible refine bZ (b:=false) ?_ ?_);exact rfl)
 | with_reducible refine gQ ?_
 | ((with_reducible apply qU);exact rfl;exact yD rfl)
 | (with_reducible refine Exists.intro _ (And.intro rfl ?_))
 | (with_reducible refine L2.YT ?_)
 | (with_reducible refine L2.bH ?_)
 | (refine L2.YT ?_)
 | (refine L2.bH ?_))
local macro_rules | `(tactic| walk_at "r")=>`(tactic| repeat walk_at "dl")
local macro_rules | `(tactic| walk_at "wkd")=>`(tactic| repeat (first | walk_at "dl" | refine BA ?_ | refine de_dnew ?_))
local macro_rules | `(tactic| walk_at "wks")=>`(tactic| repeat ((fail_if_success (with_reducible show DSt _ _ _ _ _));(first | walk_at "dl" | refine BA ?_ | refine de_dnew ?_)))
section
variable {P:Program}{w:World}{K:Frg}{mg:Str->Option Value}{base:Heap}
def V1:List Str:=["thing"]
theorem LX:FnScope V1 ["thing"] (AA GM):=⟨rfl,rfl,rfl,by decide +kernel,rfl,by decide +kernel,by decide +kernel⟩
theorem V2 {f:Addr}{fd:FuncData}(F:Fun K "is_whole" "is_whole" GM f fd) (n_bool:mg "bool"=none) (n_int:mg "int"=none) (n_isinstance:mg "isinstance"=none):FnOk P w K mg base CX0 1 f fd ["thing"] (spD K 1 JL):=by
 refine fnD F LX fun cdv A outer s H E hr=>?_
 have hu:=hr.units
 have nd:=LX.nd
 refine⟨_,by walk_at "b1", ?_⟩
 clear nd
 rintro xs M hl ⟨d,rfl,-⟩
 walk_at "dl";walk_at "dl";walk_at "dl"
 cases d <;>
 · walk_at "r"
   exact⟨M,zT M,fun d' e=>by cases e;exact⟨rfl,rfl⟩⟩
def SM:List Str:=["thing", "low", "high"]
theorem KH:FnScope SM ["thing", "low", "high"] (AA EW):=⟨rfl,rfl,rfl,by decide +kernel,rfl,by decide +kernel,by decide +kernel⟩
section
local macro_rules | `(tactic| walk_at "x")=>`(tactic| first | ((with_reducible show PE _ (.Compare _ [_,_] ..) _);exact @aT _ _ _ _ _ _ _ _ _ _ _ _ (@jM _) (@jM _) (by walk_at "e") (by walk_at "e") (by walk_at "e") (by with_unfolding_all rfl)))
theorem SN {f:Addr}{fd:FuncData}(F:Fun K "is_within" "is_within" EW f fd) (h_is_whole:Has P w K mg base "is_whole" 1 ["thing"] JL):FnOk P w K mg base CX0 2 f fd ["thing", "low", "high"] (spD K 3 DB):=by
 refine fnD F KH fun cdv A outer s H E hr=>?_
 have hu:=hr.units
 have nd:=KH.nd
 refine⟨_,by walk_at "b1", ?_⟩
 clear nd
 rintro xs M hl ⟨d,lo,hi,rfl⟩
 walk_at "r"
 refine D9 trivial ?_
 cases d
 case int i=>
   walk_at "r"
   refine m4 (fun h=>?_) (fun h=>?_)
   · walk_at "r"
     exact⟨M,zT M,fun d' lo' hi' e=>by cases e;refine⟨?_,rfl⟩;simp only[K4];rw[h];rfl⟩
   · exact⟨M,zT M,fun d' lo' hi' e=>by cases e;refine⟨?_,rfl⟩;simp only[K4];simp at h;simp;omega⟩
 all_goals
   walk_at "r"
   exact⟨M,zT M,fun d' lo' hi' e=>by cases e;exact⟨rfl,rfl⟩⟩
end
def WV:List Str:=["word"]
theorem OM:FnScope WV ["word"] (AA IQ):=⟨rfl,rfl,rfl,by decide +kernel,rfl,by decide +kernel,by decide +kernel⟩
section
local macro_rules | `(tactic| walk_at "x")=>`(tactic| first | ((with_reducible show PE _ (.Call (.Attribute _ (a0Q "get") _) ..) _);exact @iF _ _ _ _ _ _ _ _ rfl g_FORMS (by walk_at "e") (@L2.M1.mk _ _ _ _ _ _ rfl rfl rfl rfl) (by decide)))
theorem WW {f:Addr}{fd:FuncData}(F:Fun K "form_of" "form_of" IQ f fd) (n_isinstance:mg "isinstance"=none) (n_str:mg "str"=none) (g_FORMS:∃a,mg "FORMS"=some (.ref a)/\GDict w K a LS):FnOk P w K mg base CX0 1 f fd ["word"] (spD K 1 L7):=by
 refine fnD F OM fun cdv A outer s H E hr=>?_
 have hu:=hr.units
 have nd:=OM.nd
 refine⟨_,by walk_at "b1", ?_⟩
 clear nd
 rintro xs M hl ⟨d,rfl,-⟩
 cases d
 case str z=>
   walk_at "r"
   refine iG ?_
   walk_at "r"
   exact⟨M,zT M,fun d' e=>by cases e;exact⟨rfl,rfl⟩⟩
 all_goals
   walk_at "r"
   exact⟨M,zT M,fun d' e=>by cases e;exact⟨rfl,rfl⟩⟩
end
def V3:List Str:=["deed"]
theorem LY:FnScope V3 ["deed"] (AA GN):=⟨rfl,rfl,rfl,by decide +kernel,rfl,by decide +kernel,by decide +kernel⟩
section
local macro_rules | `(tactic| walk_at "x")=>`(tactic| first | ((with_reducible show PE _ (.Call (.Attribute _ (a0Q "startswith") _) ..) _);exact @kBm _ K _ _ _ _ _ _ _ _ _ _ _ rfl PySem.F.plainAttrs_str PySem.F.slot_str_startswith PySem.F.type_str_startswith (@TV _ K rfl) (by walk_at "e") (by walk_at "a") (by rfl) (by rfl) (by rfl) (by rfl) (by rfl)))
theorem V4 {f:Addr}{fd:FuncData}(F:Fun K "names_in" "names_in" GN f fd) (h_form_of:Has P w K mg base "form_of" 1 ["word"] L7):FnOk P w K mg base CX0 2 f fd ["deed"] (spD K 1 GF):=by
 refine fnD F LY fun cdv A outer s H E hr=>?_
 have hu:=hr.units
 have nd:=LY.nd
 refine⟨_,by walk_at "b1", ?_⟩
 clear nd
 rintro xs M hl ⟨d,rfl,w,f,r,rfl,hf⟩
 obtain⟨fa,fs,fn,_,_⟩:=WB hf
 have hform:kB (.str w) = .str f:=by
   show Z3 (LS.lookup w)=_
   rw[hf];rfl
 walk_at "r"
 refine Q2 ?_
 walk_at "r"
 refine AC (d:=.str w) (AD (j:=0) rfl) ?_
 walk_at "r"
 refine D9 trivial ?_
 rw[hform]
 refine⟨gY,?_⟩
 walk_at "r"
 refine Z5 ?_
 rw[fn]
 cases htw:iQ w with
 | true=>
   walk_at "r"
   refine HN ?_
   rw[show CT (a0K w::r) (some 1) (some 3)=r.take 2 from MY _ 1 3]
   exact⟨M,zT M,fun d' e=>by cases e;refine⟨?_,rfl⟩;simp only[NW,htw];rfl⟩
 | false=>
   walk_at "r"
   refine HN ?_
   rw[show CT (a0K w::r) (some 1) (some 2)=r.take 1 from MY _ 1 2]
   exact⟨M,zT M,fun d' e=>by cases e;refine⟨?_,rfl⟩;simp only[NW,htw];rfl⟩
end
def WX:List Str:=["deed"]
theorem OO:FnScope WX ["deed"] (AA IR):=⟨rfl,rfl,rfl,by decide +kernel,rfl,by decide +kernel,by decide +kernel⟩
section
local macro_rules | `(tactic| walk_at "x")=>`(tactic| first | ((with_reducible show PT _ (.Compare _ [.In] ..) _);exact @BN _ _ _ _ _ _ _ _ (@kIn _ K rfl) (by walk_at "e") (by walk_at "e") (by with_unfolding_all rfl)))
theorem WY {f:Addr}{fd:FuncData}(F:Fun K "made_by" "made_by" IR f fd):FnOk P w K mg base CX0 1 f fd ["deed"] (spD K 1 IM):=by
 refine fnD F OO fun cdv A outer s H E hr=>?_
 have hu:=hr.units
 have nd:=OO.nd
 refine⟨_,by walk_at "b2", ?_⟩
 clear nd
 rintro xs M hl ⟨d,rfl,D,rfl,hD⟩
 rw[D.d_eq]
 walk_at "r"
 refine AC (d:=.str D.word) (AD (j:=0) rfl) ?_
 walk_at "r"
 refine AU D.word_ok (by decide +kernel) ?_
 rw[if_neg nft,BF,dH]
 cases hp:D.isPut with
 | true=>
   walk_at "r"
   refine AC (d:=.str D.fst) (AD (j:=1) rfl) ?_
   refine⟨M,zT M,fun d' e=>?_⟩
   cases e
   refine⟨?_,rfl⟩
   cases D <;> first | rfl | cases hp
 | false=>
   walk_at "r"
   refine AC (d:=.str D.word) (AD (j:=0) rfl) ?_
   walk_at "r"
   refine MZ (ys:=[a0Q "name", a0Q "split"]) ?_
   rw[qX,iV]
   cases hn:D.isNS with
   | true=>
     have h2:∃y t,D.rest = .str y::t:=by cases D <;> first | exact⟨_,_,rfl⟩ | cases hn
     obtain⟨y,t,h2⟩:=h2
     walk_at "r"
     refine AC (d:=.str y) (AD (j:=2) (by rw[h2];rfl)) ?_
     refine⟨M,zT M,fun d' e=>?_⟩
     cases e
     refine⟨?_,rfl⟩
     cases D <;> first | (cases hn;done) | (simp only[Deed.rest] at h2;injection h2 with h3 h4;injection h3 with h3;subst h3;rfl)
   | false=>
     walk_at "r"
     refine⟨M,zT M,fun d' e=>?_⟩
     cases e
     refine⟨?_,rfl⟩
     cases D <;> first | rfl | (cases hn;done) | (cases hp;done)
end
def IY:List Str:=["deed", "made"]
def GP:List Str:=["name", "made"]
def GQ:List (Option Nat):=[none,some 1]
theorem MK:GP.Nodup:=by decide +kernel
theorem IZ:FnScope IY ["deed"] (AA CN):=⟨rfl,rfl,rfl,by decide +kernel,rfl,by decide +kernel,by decide +kernel⟩
section
local macro_rules | `(tactic| walk_at "cs")=>`(tactic| first | exact @DJ _ _ GP GQ (AA CN) IY (by decide +kernel) (by decide +kernel) rfl rfl)
theorem P6 {f:Addr}{fd:FuncData}(F:Fun K "must_stand" "must_stand" CN f fd) (n_tuple:mg "tuple"=none) (h_made_by:Has P w K mg base "made_by" 1 ["deed"] IM) (h_names_in:Has P w K mg base "names_in" 2 ["deed"] GF):FnOk P w K mg base CX0 3 f fd ["deed"] (spD K 1 GH):=by
 refine fnD F IZ fun cdv A outer s H E hr=>?_
 have hu:=hr.units
 have nd:=IZ.nd
 have n0:=MK
 refine⟨_,by walk_at "b2", ?_⟩
 clear nd n0
 rintro xs M hl ⟨d,rfl,D,rfl,hD⟩
 have hsz:(D.names.map a0K).length < sizeLine:=by
   rw[zX];exact zQ (show D.names.length<=2 by cases D <;> simp[Deed.names]) (by decide)
 walk_at "r"
 refine D9 ⟨D,rfl,hD⟩ ?_
 walk_at "r"
 refine AF (AN 0) (by simp[GQ]) ?_
 refine B9 ?_
 walk_at "r"
 refine D9 (NX D) ?_
 rw[K6]
 refine⟨_,rfl,hsz,fun d=>!a0Z d (HU D.d),id,?_,?_⟩
 · intro d hd M'
   obtain⟨n,hn,rfl⟩:=zL.mp hd
   walk_at "dl"
   refine⟨rfl,?_⟩
   walk_at "r"
   refine AU (AM (hD n hn)) (iW hD) ?_
   rw[if_pos rfl]
   refine⟨_,rfl,rfl,rfl,fun _=>?_⟩
   walk_at "r"
   exact⟨rfl,rfl⟩
 · walk_at "r"
   refine ER ?_
   refine⟨M,zT M,fun d' e=>?_⟩
   cases e
   refine⟨?_,rfl⟩
   show DS.d (.tuple _) = .d (.tuple ((UE D.d).map .str))
   unfold UE
   rw[FL,a9X,xU]
   rfl
end
def LZ:List Str:=["book"]
def J0:List Str:=["hand", "deed"]
def J2:List (Option Nat):=[none,none]
theorem P7:J0.Nodup:=by decide +kernel
theorem M0:FnScope LZ ["book"] (AA EH):=⟨rfl,rfl,rfl,by decide +kernel,rfl,by decide +kernel,by decide +kernel⟩
section
local macro_rules | `(tactic| walk_at "cs")=>`(tactic| first | exact @DJ _ _ J0 J2 (AA EH) LZ (by decide +kernel) (by decide +kernel) rfl rfl)
local macro_rules | `(tactic| walk_at "x")=>`(tactic| first | ((with_reducible show PG _ (.Tuple ..) _);exact @i9 _ K _ _ _ _ (2) rfl rfl (by walk_at "j") (by rfl) (by rfl)))
theorem V5 {f:Addr}{fd:FuncData}(F:Fun K "deeds_of" "deeds_of" EH f fd) (n_tuple:mg "tuple"=none):FnOk P w K mg base CX0 1 f fd ["book"] (spD K 1 D0):=by
 refine fnD F M0 fun cdv A outer s H E hr=>?_
 have hu:=hr.units
 have nd:=M0.nd
 have n0:=P7
 refine⟨_,by walk_at "b1", ?_⟩
 clear nd n0
 rintro xs M hl ⟨w,ls,rfl,hg⟩
 walk_at "r"
 refine AF (RS (ES (ES RR))) (by simp[J2]) ?_
 refine B9 ?_
 walk_at "r"
 refine AC (ds:=[wD w,AJ ls]) (d:=AJ ls) rfl ?_
 walk_at "r"
 refine⟨by rw[zX];exact zQ hg.few (by decide),fun _=>true,fun d=>match d with | .tuple [_,b]=>b | d=>d,?_,?_⟩
 · intro d hd M'
   obtain⟨l,hl,rfl⟩:=zL.mp hd
   rw[show BY l = .tuple [.str l.1,l.2.d] from rfl]
   walk_at "r"
   refine⟨rfl,?_⟩
   walk_at "dl"
   refine⟨rfl,rfl,fun _=>?_⟩
   walk_at "r"
   exact⟨rfl,rfl⟩
 · walk_at "r"
   refine ER ?_
   refine⟨M,zT M,fun w' ls' e=>?_⟩
   simp only[List.cons.injEq,DS.d.injEq,and_true] at e
   have e:=FO e
   subst e
   refine⟨?_,rfl⟩
   rw[S5,zD,zD]
   rfl
end
def SO:List Str:=["book", "thing"]
theorem KI:FnScope SO ["book", "thing"] (AA EX):=⟨rfl,rfl,rfl,by decide +kernel,rfl,by decide +kernel,by decide +kernel⟩
theorem SQ {f:Addr}{fd:FuncData}(F:Fun K "is_number" "is_number" EX f fd) (n_len:mg "len"=none) (h_is_within:Has P w K mg base "is_within" 2 ["thing", "low", "high"] DB):FnOk P w K mg base CX0 3 f fd ["book", "thing"] (spD K 2 C9):=by
 refine fnD F KI fun cdv A outer s H E hr=>?_
 have hu:=hr.units
 have nd:=KI.nd
 refine⟨_,by walk_at "b1", ?_⟩
 clear nd
 rintro xs M hl ⟨w,ls,d,rfl⟩
 walk_at "r"
 refine AC (ds:=[wD w,AJ ls]) (d:=AJ ls) rfl ?_
 walk_at "r"
 refine IJ ?_
 walk_at "r"
 refine TN ?_
 refine⟨M,zT M,fun w' ls' d' e=>?_⟩
 simp only[List.cons.injEq,DS.d.injEq,and_true] at e
 obtain⟨e1,rfl⟩:=e
 have e1:=FO e1
 subst e1
 rw[zX]
 exact⟨rfl,rfl⟩
def LH:List Str:=["book", "made"]
def MA:List Str:=["deed"]
def MB:List (Option Nat):=[none]
theorem V6:MA.Nodup:=by decide +kernel
def MC:List Str:=["number", "name"]
def MD:List (Option Nat):=[none,none]
theorem V7:MC.Nodup:=by decide +kernel
theorem QO:FnScope LH ["book"] (AA FV):=⟨rfl,rfl,rfl,by decide +kernel,rfl,by decide +kernel,by decide +kernel⟩
section
local macro_rules | `(tactic| walk_at "cs")=>`(tactic| first | exact @DJ _ _ MA MB (AA FV) LH (by decide +kernel) (by decide +kernel) rfl rfl | exact @DJ _ _ MC MD (AA FV) LH (by decide +kernel) (by decide +kernel) rfl rfl)
local macro_rules | `(tactic| walk_at "x")=>`(tactic| first | ((with_reducible show PI _ _ (.Call (.Name (a0Q "enumerate") _) ..) _);exact @pW _ K _ _ _ _ _ _ _ rfl rfl n_enumerate (by walk_at "a") (by rfl)) | ((with_reducible show PG _ (.Tuple ..) _);exact @i9 _ K _ _ _ _ (2) rfl rfl (by walk_at "j") (by rfl) (by rfl)))
theorem aF {f:Addr}{fd:FuncData}(F:Fun K "makers" "makers" FV f fd) (n_enumerate:mg "enumerate"=none) (h_deeds_of:Has P w K mg base "deeds_of" 1 ["book"] D0) (h_made_by:Has P w K mg base "made_by" 1 ["deed"] IM):FnOk P w K mg base CX0 2 f fd ["book"] (spD K 1 HW):=by
 refine fnD F QO fun cdv A outer s H E hr=>?_
 have hu:=hr.units
 have hu1:=zQ (a5Q (show 1<=64 by decide) _) hu
 have nd:=QO.nd
 have n0:=V6
 have n1:=V7
 refine⟨_,by walk_at "b2", ?_⟩
 clear nd n0 n1
 rintro xs M hl ⟨w,ls,rfl,hg⟩
 have hrl:∀D∈dsL ls,D.real:=fun D hD=>by
   obtain⟨l,h1,rfl⟩:=zL.mp hD
   exact hg.real l h1
 have hsz:ls.length < sizeLine:=zQ hg.few (by decide)
 walk_at "r"
 refine AF (AN 0) (by simp[MB]) ?_
 refine B9 ?_
 walk_at "r"
 refine O9 hg ?_
 refine⟨_,rfl,by rw[zX,zX];exact hsz,fun _=>true,HU,?_,?_⟩
 · intro d hd M'
   obtain⟨D,hD,rfl⟩:=zL.mp hd
   walk_at "dl"
   refine⟨rfl,?_⟩
   walk_at "dl"
   refine⟨rfl,rfl,fun _=>?_⟩
   walk_at "r"
   refine D9 (EU (hrl D hD)) ?_
   exact⟨rfl,rfl⟩
 · rw[S5,zD]
   walk_at "r"
   refine cZ (RS (ES (ES RR))) (by simp[MD]) ?_
   refine j2 ?_
   walk_at "r"
   have emk:(((O6 ((dsL ls).map (HU∘Deed.d))).filter cEn).map fun d=>(fEn d,wEn d))=mkL (dsL ls) 0:=Y2 (dsL ls) 0
   refine⟨by unfold O6;rw[zX,List.length_zipIdx,zX,zX];exact hsz,cEn,fEn,wEn,?_,?_,fun p hp=>?_⟩
   · have:=QH (dsL ls) 0 hg.fresh.one
     rw[← emk,zD] at this
     exact this
   · intro d hd M'
     obtain⟨q,hq,rfl⟩:=zL.mp hd
     obtain⟨D,hD,eD⟩:∃D∈dsL ls,HU D.d=q.1:=by
       obtain⟨D,a,b⟩:=zL.mp (List.fst_mem_of_mem_zipIdx hq)
       exact⟨D,a,b⟩
     rw[← eD]
     rcases (show HU D.d = .none∨∃x,HU D.d = .str x by rw[S4];cases D.made with | none=>exact .inl rfl | some x=>exact .inr ⟨x,rfl⟩) with e | ⟨x,e⟩ <;> rw[e]
     · walk_at "r"
       refine⟨rfl,?_⟩
       walk_at "r"
       refine NO ?_
       exact⟨_,rfl,rfl,rfl,fun h=>absurd h nft⟩
     · walk_at "r"
       refine⟨rfl,?_⟩
       walk_at "r"
       refine NO ?_
       refine⟨_,rfl,rfl,rfl,fun _=>?_⟩
       walk_at "r"
       refine⟨rfl,rfl,?_⟩
       walk_at "r"
       exact⟨rfl,rfl⟩
   · rw[emk]
     refine⟨_,zT _,fun w' ls' e=>?_⟩
     simp only[List.cons.injEq,DS.d.injEq,and_true] at e
     have e:=FO e
     subst e
     exact⟨p,hp,rfl,rfl⟩
end
def V8:List Str:=["book", "number", "made"]
def OP:List Str:=["name", "made"]
def OQ:List (Option Nat):=[none,some 2]
theorem WZ:OP.Nodup:=by decide +kernel
theorem V9:FnScope V8 ["book", "number"] (AA KB):=⟨rfl,rfl,rfl,by decide +kernel,rfl,by decide +kernel,by decide +kernel⟩
section
local macro_rules | `(tactic| walk_at "cs")=>`(tactic| first | exact @DJ _ _ OP OQ (AA KB) V8 (by decide +kernel) (by decide +kernel) rfl rfl)
local macro_rules | `(tactic| walk_at "x")=>`(tactic| first | ((with_reducible show PT _ (.Compare _ [.In] ..) _);exact @VF _ _ _ _ _ _ (@VT _ _ _ _ _ hu1 (by walk_at "e") (by walk_at "e")) (by with_unfolding_all rfl)))
local macro_rules | `(tactic| walk_at "y")=>`(tactic| first | ((with_reducible show PE _ (.Call (.Name (a0Q "sorted") _) ..) _);exact @BW _ _ _ _ _ _ _ _ _ (@WI _ K rfl rfl) (by rfl) n_sorted a9J (by walk_at "a") (by decide) (by decide) (by rfl) (by rfl)) | ((with_reducible show PE _ (.Subscript ..) _);exact @MW _ _ _ _ _ _ hu1 (@pv _ 1 _ _ (by rfl) (by walk_at "lc") (by decide) (by decide)) (@pv _ 0 _ _ (by rfl) (by walk_at "lc") (by decide) (by decide)) (fun _ _=>rfl)))
theorem fH {f:Addr}{fd:FuncData}(F:Fun K "needs" "needs" KB f fd) (n_sorted:mg "sorted"=none) (n_tuple:mg "tuple"=none) (h_is_number:Has P w K mg base "is_number" 3 ["book", "thing"] C9) (h_makers:Has P w K mg base "makers" 2 ["book"] HW) (h_must_stand:Has P w K mg base "must_stand" 3 ["deed"] GH):FnOk P w K mg base CX0 4 f fd ["book", "number"] (spD K 2 K8):=by
 refine fnD F V9 fun cdv A outer s H E hr=>?_
 have hu:=hr.units
 have hu1:=zQ (a5Q (show 1<=64 by decide) _) hu
 have nd:=V9.nd
 have n0:=WZ
 refine⟨_,by walk_at "b2", ?_⟩
 clear nd n0
 rintro xs M hl ⟨w,ls,k,rfl,hg,hk⟩
 obtain⟨l,hlk,hlm,hll,hld⟩:=IN hk
 have hr:=hg.real l hlm
 walk_at "r"
 refine OB ?_
 rw[dZ hk]
 walk_at "r"
 refine UQ hg fun p hp=>?_
 walk_at "r"
 refine GC (AN 0) (by simp[OQ]) ?_
 refine B9 ?_
 walk_at "r"
 refine AC (ds:=[wD w,AJ ls]) (d:=AJ ls) rfl ?_
 walk_at "r"
 refine AC (ds:=ls.map BY) (AD hll) ?_
 walk_at "r"
 refine AC (ds:=[.str l.1,l.2.d]) (d:=l.2.d) rfl ?_
 walk_at "r"
 refine D9 (EU hr) ?_
 rw[j3]
 have hml:(l.2.must).length<=2:=zN (yJ _ _) (by cases l.2 <;> simp[Deed.names])
 refine⟨_,rfl,by rw[zX];exact zQ hml (by decide),cMk (dsL ls),fMk (dsL ls),?_,?_⟩
 · rintro d hd A acc M' hA rfl
   obtain⟨n,hn,rfl⟩:=zL.mp hd
   have hpA:p≠A:=by rintro rfl;rw[zU] at hA;cases hA
   walk_at "dl"
   refine⟨rfl,?_⟩
   walk_at "r"
   refine XT ?_
   walk_at "r"
   refine⟨p,mkL (dsL ls) 0,n,rfl,rfl,by rw[yH hpA];exact zU,?_⟩
   refine⟨_,rfl,rfl,rfl,fun hc=>?_⟩
   obtain⟨v,hv⟩:=xY.mp (show(AL (mkL (dsL ls) 0) n).isSome=true from hc)
   refine U7 ?_
   walk_at "r"
   refine⟨p,mkL (dsL ls) 0,n,v,rfl,rfl,by rw[yH hpA];exact zU,hv,?_,rfl⟩
   show DS.d v = .d ((AL (mkL (dsL ls) 0) n).getD .none)
   rw[hv];rfl
 · rw[ZT hg.fresh]
   walk_at "r"
   refine UO (by rw[zX];exact zQ (zN (yJ _ _) hml) (by decide)) fun ss hp2 hs=>?_
   walk_at "r"
   refine ER ?_
   refine⟨M,(zT M).put hp,fun w' ls' k' e=>?_⟩
   simp only[List.cons.injEq,DS.d.injEq,PyData.int.injEq,and_true] at e
   obtain⟨e1,e2⟩:=e
   have e1:=FO e1
   have e2:k=k':=by omega
   subst e1 e2
   rw[dX hg.fresh hld (WN hr) rfl hp2 hs]
   exact⟨rfl,rfl⟩
end
def VA:List Str:=["things"]
def OR:List Str:=["ahead", "thing"]
def OS:List (Option Nat):=[none,none]
theorem X0:OR.Nodup:=by decide +kernel
theorem VB:FnScope VA ["things"] (AA KC):=⟨rfl,rfl,rfl,by decide +kernel,rfl,by decide +kernel,by decide +kernel⟩
section
local macro_rules | `(tactic| walk_at "cs")=>`(tactic| first | exact @DJ _ _ OR OS (AA KC) VA (by decide +kernel) (by decide +kernel) rfl rfl)
local macro_rules | `(tactic| walk_at "x")=>`(tactic| first | ((with_reducible show PI _ _ (.Call (.Name (a0Q "zip") _) ..) _);exact @kG _ K _ _ _ _ _ _ _ _ rfl rfl n_zip (by walk_at "a") (by rfl) (by rfl)) | ((with_reducible show PG _ (.Tuple ..) _);exact @i9 _ K _ _ _ _ (2) rfl rfl (by walk_at "j") (by rfl) (by rfl)))
theorem fI {f:Addr}{fd:FuncData}(F:Fun K "rises" "rises" KC f fd) (n_all:mg "all"=none) (n_zip:mg "zip"=none):FnOk P w K mg base CX0 1 f fd ["things"] (spD K 1 FP):=by
 refine fnD F VB fun cdv A outer s H E hr=>?_
 have hu:=hr.units
 have nd:=VB.nd
 have n0:=X0
 refine⟨_,by walk_at "b1", ?_⟩
 clear nd n0
 rintro xs M hl ⟨st,rfl,hst,hlen⟩
 rw[show chD st = .tuple (AB st) from rfl]
 walk_at "r"
 refine AF (RS (ES (ES RR))) (by simp[OS]) ?_
 refine Y5 ?_
 walk_at "r"
 refine HN ?_
 rw[QM]
 walk_at "r"
 refine⟨AB st,AB (st.drop 1),rfl,?_⟩
 refine⟨by unfold P2;rw[zX,b4Z,AH];exact zQ (zN (Nat.min_le_left _ _) hlen) (by decide),fun _=>true,fun _=>.bool true,?_,?_⟩
 · intro d hd M'
   obtain⟨a,b,hab,rfl⟩:=jB hst hd
   walk_at "r"
   refine⟨rfl,?_⟩
   walk_at "dl"
   refine⟨rfl,rfl,fun _=>?_⟩
   walk_at "r"
   rw[WS,decide_eq_true hab]
   exact⟨rfl,rfl⟩
 rw[S5,IO]
 walk_at "r"
 refine NF ?_
 rw[KA]
 exact⟨M,zT M,rfl,rfl⟩
end
def ID:List Str:=["book", "thing"]
def J3:List Str:=["part", "book"]
def J5:List (Option Nat):=[none,some 0]
theorem P8:J3.Nodup:=by decide +kernel
def J6:List Str:=["number", "need", "thing", "book"]
def FB:List (Option Nat):=[none,none,some 1,some 0]
theorem P9:J6.Nodup:=by decide +kernel
theorem ME:FnScope ID ["book", "thing"] (AA D3):=⟨rfl,rfl,rfl,by decide +kernel,rfl,by decide +kernel,by decide +kernel⟩
section
local macro_rules | `(tactic| walk_at "cs")=>`(tactic| first | exact @DJ _ _ J3 J5 (AA D3) ID (by decide +kernel) (by decide +kernel) rfl rfl | exact @DJ _ _ J6 FB (AA D3) ID (by decide +kernel) (by decide +kernel) rfl rfl)
local macro_rules | `(tactic| walk_at "x")=>`(tactic| first | ((with_reducible show PE _ (.Compare _ [.In] ..) _);exact @D5 _ _ _ _ _ _ _ _ (@pX _ K rfl hu) (by walk_at "e") (by walk_at "e") (by with_unfolding_all rfl)))
theorem VC {f:Addr}{fd:FuncData}(F:Fun K "is_stand" "is_stand" D3 f fd) (n_all:mg "all"=none) (n_isinstance:mg "isinstance"=none) (n_tuple:mg "tuple"=none) (h_is_number:Has P w K mg base "is_number" 3 ["book", "thing"] C9) (h_needs:Has P w K mg base "needs" 4 ["book", "number"] K8) (h_rises:Has P w K mg base "rises" 1 ["things"] FP):FnOk P w K mg base CX0 5 f fd ["book", "thing"] (spD K 2 CL):=by
 refine fnD F ME fun cdv A outer s H E hr=>?_
 have hu:=hr.units
 have nd:=ME.nd
 have n0:=P8
 have n1:=P9
 refine⟨_,by walk_at "b2", ?_⟩
 clear nd n0 n1
 rintro xs M hl ⟨w,ls,st,rfl,hg,hs⟩
 have hfew:=hg.few
 have hlen:=hs.len
 rw[show bxS w ls st=[.d (AW w ls),.d (.tuple (AB st))] from rfl]
 walk_at "r"
 refine AF (AN 0) (by simp[J5]) ?_
 refine B9 ?_
 walk_at "r"
 refine⟨by rw[AH];exact zQ (zN hlen hfew) (by decide),fun _=>true,fun _=>.bool true,?_,?_⟩
 · intro d hd M'
   obtain⟨i,hi,rfl⟩:=zL.mp hd
   obtain⟨k,hk,rfl⟩:=BD.mp hi
   walk_at "dl"
   refine⟨rfl,?_⟩
   walk_at "dl"
   refine⟨rfl,rfl,fun _=>?_⟩
   walk_at "r"
   refine OB ?_
   rw[dZ (hs.lt k hk)]
   exact⟨rfl,rfl⟩
 rw[S5,IO]
 walk_at "r"
 refine NF ?_
 rw[KA]
 walk_at "r"
 refine SF hs.inc (by omega) ?_
 walk_at "r"
 refine eT (AN 0) (by simp[FB]) (AN 1) (by simp[FB]) ?_
 refine B9 ?_
 walk_at "r"
 refine⟨ndF ls,fun _ _=>.bool true,?_,?_,?_⟩
 · refine zQ (UZ (n:=50) fun d hd=>?_) (zQ (Nat.mul_le_mul_right 50 (show(AB st).length<=50 by rw[AH];omega)) (by decide))
   obtain⟨i,hi,rfl⟩:=zL.mp hd
   obtain⟨k,hk,rfl⟩:=BD.mp hi
   rw[zX]
   show(AB (DH (dsL ls) k)).length<=50
   rw[AH]
   unfold DH
   have:=hs.lt k hk
   exact zN (yJ _ _) (by rw[xZ];omega)
 · intro d hd M'
   obtain⟨i,hi,rfl⟩:=zL.mp hd
   obtain⟨k,hk,rfl⟩:=BD.mp hi
   walk_at "dl"
   refine⟨rfl,?_⟩
   refine B9 ?_
   walk_at "r"
   refine WM hg (hs.lt k hk) ?_
   refine⟨_,rfl,rfl,rfl,fun e he M''=>?_⟩
   obtain⟨i,hi,rfl⟩:=zL.mp he
   obtain⟨j,hj,rfl⟩:=BD.mp hi
   walk_at "dl"
   refine⟨rfl,?_⟩
   walk_at "r"
   refine K9 (ds:=AB st) rfl (CK _) ?_
   rw[if_neg nft,HX,decide_eq_true (hs.needs k hk j hj)]
   exact⟨rfl,rfl⟩
 rw[OI]
 walk_at "r"
 refine NF ?_
 rw[KA]
 exact⟨_,zT _,rfl,rfl⟩
end
def JQ:List Str:=["book", "thing"]
theorem EI:FnScope JQ ["book", "thing"] (AA BG):=⟨rfl,rfl,rfl,by decide +kernel,rfl,by decide +kernel,by decide +kernel⟩
theorem JR {f:Addr}{fd:FuncData}(F:Fun K "refuse_no_stand" "refuse_no_stand" BG f fd) (h_is_stand:Has P w K mg base "is_stand" 5 ["book", "thing"] CL):FnOk P w K mg base CX0 6 f fd ["book", "thing"] (spD K 2 EG):=by
 refine fnD F EI fun cdv A outer s H E hr=>?_
 have hu:=hr.units
 have nd:=EI.nd
 refine⟨_,by walk_at "b1", ?_⟩
 clear nd
 rintro xs M hl ⟨w,ls,st,rfl,hg,hs⟩
 walk_at "r"
 refine SG hg hs ?_
 walk_at "r"
 exact⟨M,zT M,rfl,rfl⟩
def aG:List Str:=["deed", "name"]
theorem QR:FnScope aG ["deed", "name"] (AA KD):=⟨rfl,rfl,rfl,by decide +kernel,rfl,by decide +kernel,by decide +kernel⟩
section
local macro_rules | `(tactic| walk_at "x")=>`(tactic| first | ((with_reducible show PT _ (.Compare _ [.In] ..) _);exact @BN _ _ _ _ _ _ _ _ (@kIn _ K rfl) (by walk_at "e") (by walk_at "e") (by with_unfolding_all rfl)) | ((with_reducible show PE _ (.Name ..) _);exact @iH _ _ _ _ rfl g_ADDING.1 (by decide)))
theorem aH {f:Addr}{fd:FuncData}(F:Fun K "use_of" "use_of" KD f fd) {a_ADDING:Addr}(g_ADDING:mg "ADDING"=some (.ref a_ADDING)/\nC K a_ADDING ["count", "split", "join"]):FnOk P w K mg base CX0 1 f fd ["deed", "name"] (spD K 2 O1):=by
 refine fnD F QR fun cdv A outer s H E hr=>?_
 have hu:=hr.units
 have nd:=QR.nd
 refine⟨_,by walk_at "b2", ?_⟩
 clear nd
 rintro xs M hl ⟨a,b,rfl,⟨D,rfl,hD⟩,n,rfl,hn⟩
 rw[D.d_eq]
 walk_at "r"
 refine AC (d:=.str D.word) (AD (j:=0) rfl) ?_
 walk_at "r"
 refine AU D.word_ok (by decide +kernel) ?_
 rw[if_neg nft,BF]
 cases hm:(D.word==a0Q "move") with
 | true=>
   walk_at "r"
   refine⟨M,zT M,fun a b e=>?_⟩
   cases e
   exact⟨by simp only[B8,BX,hm];rfl,rfl⟩
 | false=>
   walk_at "r"
   refine AC (d:=.str D.word) (AD (j:=0) rfl) ?_
   walk_at "r"
   refine iI g_ADDING.2 ?_
   refine MZ ?_
   rw[qW]
   cases h3:(D.word==a0Q "count" || D.word==a0Q "split" || D.word==a0Q "join") with
   | false=>
     walk_at "r"
     refine⟨M,zT M,fun a b e=>?_⟩
     cases e
     exact⟨by simp only[B8,BX,hm,h3];rfl,rfl⟩
   | true=>
     walk_at "r"
     refine AC (d:=.str D.fst) (AD (j:=1) rfl) ?_
     walk_at "r"
     refine AU (AM (Deed.fst_ok hD)) (AM hn) ?_
     rw[if_neg nft,BF]
     cases hf:(D.fst==n) with
     | true=>
       walk_at "r"
       refine⟨M,zT M,fun a b e=>?_⟩
       cases e
       exact⟨by simp only[B8,BX,hm,h3,hf];rfl,rfl⟩
     | false=>
       walk_at "r"
       refine⟨M,zT M,fun a b e=>?_⟩
       cases e
       exact⟨by simp only[B8,BX,hm,h3,hf];rfl,rfl⟩
end
def SR:List Str:=["one", "other", "name", "uses"]
theorem KJ:FnScope SR ["one", "other", "name"] (AA EY):=⟨rfl,rfl,rfl,by decide +kernel,rfl,by decide +kernel,by decide +kernel⟩
section
local macro_rules | `(tactic| walk_at "x")=>`(tactic| first | ((with_reducible show PE _ (.Compare _ [.In] ..) _);exact @D5 _ _ _ _ _ _ _ _ (@kIn _ K rfl) (by walk_at "e") (by walk_at "e") (by with_unfolding_all rfl)) | ((with_reducible show PE _ (.Compare _ [.NotIn] ..) _);exact @D5 _ _ _ _ _ _ _ _ (@n4 _ K rfl) (by walk_at "e") (by walk_at "e") (by with_unfolding_all rfl)))
theorem SS {f:Addr}{fd:FuncData}(F:Fun K "may_share" "may_share" EY f fd) (h_use_of:Has P w K mg base "use_of" 1 ["deed", "name"] O1):FnOk P w K mg base CX0 2 f fd ["one", "other", "name"] (spD K 3 HS):=by
 refine fnD F KJ fun cdv A outer s H E hr=>?_
 have hu:=hr.units
 have nd:=KJ.nd
 refine⟨_,by walk_at "b2", ?_⟩
 clear nd
 rintro xs M hl ⟨a,b,c,rfl,ha,hb,n,rfl,hn⟩
 walk_at "r"
 refine NJ ⟨ha,n,rfl,hn⟩ ?_
 walk_at "r"
 refine NJ ⟨hb,n,rfl,hn⟩ ?_
 walk_at "r"
 refine MZ (ys:=[NY (B8 a n),NY (B8 b n)]) ?_
 have key:=nN _ _ (E7 a n) (E7 b n)
 cases h1:decide (a0Q "add" ∈ [NY (B8 a n),NY (B8 b n)]) with
 | false=>
   rw[h1,Bool.false_and] at key
   walk_at "r"
   refine⟨M,zT M,fun a b c e=>?_⟩
   cases e
   exact⟨by simp only[BX];rw[← key],rfl⟩
 | true=>
   rw[h1,Bool.true_and] at key
   walk_at "r"
   refine cJ (ys:=[NY (B8 a n),NY (B8 b n)]) ?_
   refine⟨M,zT M,fun a b c e=>?_⟩
   cases e
   exact⟨by simp only[BX];rw[← key],rfl⟩
end
def VD:List Str:=["one", "other"]
def OT:List Str:=["name", "other", "one"]
def OU:List (Option Nat):=[none,some 1,some 0]
theorem X1:OT.Nodup:=by decide +kernel
theorem VE:FnScope VD ["one", "other"] (AA KF):=⟨rfl,rfl,rfl,by decide +kernel,rfl,by decide +kernel,by decide +kernel⟩
section
local macro_rules | `(tactic| walk_at "cs")=>`(tactic| first | exact @DJ _ _ OT OU (AA KF) VD (by decide +kernel) (by decide +kernel) rfl rfl)
local macro_rules | `(tactic| walk_at "x")=>`(tactic| first | ((with_reducible show PE _ (.Compare _ [.In] ..) _);exact @D5 _ _ _ _ _ _ _ _ (@kIn _ K rfl) (by walk_at "e") (by walk_at "e") (by with_unfolding_all rfl)))
theorem fJ {f:Addr}{fd:FuncData}(F:Fun K "touch" "touch" KF f fd) (n_any:mg "any"=none) (h_may_share:Has P w K mg base "may_share" 2 ["one", "other", "name"] HS) (h_names_in:Has P w K mg base "names_in" 2 ["deed"] GF):FnOk P w K mg base CX0 3 f fd ["one", "other"] (spD K 2 RY):=by
 refine fnD F VE fun cdv A outer s H E hr=>?_
 have hu:=hr.units
 have nd:=VE.nd
 have n0:=X1
 refine⟨_,by walk_at "b1", ?_⟩
 clear nd n0
 rintro xs M hl ⟨a,b,rfl,⟨D,rfl,hD⟩,⟨E',rfl,hE⟩⟩
 have iD:F9 D.d:=⟨D,rfl,hD⟩
 have iE:F9 E'.d:=⟨E',rfl,hE⟩
 have hlen:(D.names.map a0K).length < sizeLine:=by
   rw[zX];exact zQ (show D.names.length<=2 by cases D <;> simp[Deed.names]) (by decide)
 walk_at "r"
 refine AF (AN 0) (by simp[OU]) ?_
 refine B9 ?_
 walk_at "r"
 refine D9 (NX D) ?_
 rw[K6]
 refine⟨_,rfl,hlen,fun _=>true,fun d=>.bool (decide (BX d∈E'.names)&&!ET (B8 D.d (BX d)) (B8 E'.d (BX d))),?_,?_⟩
 · intro d hd M'
   obtain⟨n,hn,rfl⟩:=zL.mp hd
   walk_at "dl"
   refine⟨rfl,?_⟩
   walk_at "dl"
   refine⟨rfl,rfl,fun _=>?_⟩
   walk_at "r"
   refine D9 (NX E') ?_
   rw[K6]
   refine MZ ?_
   cases hm:decide (n∈E'.names) with
   | false=>
     walk_at "r"
     exact⟨by show DS.d (.bool false) = .d (.bool (decide (n∈E'.names)&&!ET (B8 D.d n) (B8 E'.d n)));rw[hm];rfl,rfl⟩
   | true=>
     walk_at "r"
     refine dD ⟨iD,iE,n,rfl,hD n hn⟩ ?_
     walk_at "r"
     exact⟨by show DS.d (.bool (!ET (B8 D.d n) (B8 E'.d n))) = .d (.bool (decide (n∈E'.names)&&!ET (B8 D.d n) (B8 E'.d n)));rw[hm];rfl,rfl⟩
 · have e1:((D.names.map a0K).filter fun _=>true).map (fun d=>PyData.bool (decide (BX d∈E'.names)&&!ET (B8 D.d (BX d)) (B8 E'.d (BX d))))=(D.names.map fun n=>decide (n∈E'.names)&&!ET (B8 D.d n) (B8 E'.d n)).map .bool:=by
     rw[flt,zD,zD];rfl
   rw[e1]
   walk_at "r"
   refine c6 ?_
   refine⟨M,zT M,fun a b e=>?_⟩
   cases e
   refine⟨?_,rfl⟩
   show DS.d (.bool _) = .d (.bool (C0 D.d E'.d))
   unfold C0
   rw[FL,FL,List.any_map]
   rfl
end
def D4:List Str:=["book", "stand", "wished", "deeds", "coming", "going", "number", "lifts"]
def EJ:List Str:=["number", "stand"]
def EK:List (Option Nat):=[none,some 1]
theorem JS:EJ.Nodup:=by decide +kernel
def EM:List Str:=["lift", "number", "deeds"]
def EN:List (Option Nat):=[none,some 6,some 3]
theorem JT:EM.Nodup:=by decide +kernel
theorem FW:FnScope D4 ["book", "stand", "wished"] (AA B5):=⟨rfl,rfl,rfl,by decide +kernel,rfl,by decide +kernel,by decide +kernel⟩
section
local macro_rules | `(tactic| walk_at "cs")=>`(tactic| first | exact @DJ _ _ EJ EK (AA B5) D4 (by decide +kernel) (by decide +kernel) rfl rfl | exact @DJ _ _ EM EN (AA B5) D4 (by decide +kernel) (by decide +kernel) rfl rfl)
local macro_rules | `(tactic| walk_at "x")=>`(tactic| first | ((with_reducible show PT _ (.Compare _ [.NotIn] ..) _);exact @BN _ _ _ _ _ _ _ _ (@XZ _ K rfl hu) (by walk_at "e") (by walk_at "e") (by with_unfolding_all rfl)) | ((with_reducible show PE _ (.Dict ..) _);exact @NB _ _) | ((with_reducible show PS _ (.Assign [.Subscript ..] ..) _);exact @R9 _ _ _ _ _ _ _ _ _ hu1 (by walk_at "e") (by walk_at "e") (by walk_at "e") (by rfl)))
local macro_rules | `(tactic| walk_at "y")=>`(tactic| first | ((with_reducible show PE _ (.Call (.Name (a0Q "list") _) [.Call (.Attribute ..) ..] ..) _);exact @WQ _ _ _ _ _ _ _ hr.hd rfl n_list (by walk_at "e") (by rfl) (by rfl) (by rfl)))
theorem LI {f:Addr}{fd:FuncData}(F:Fun K "lifts_by_ends" "lifts_by_ends" B5 f fd) (n_len:mg "len"=none) (n_list:mg "list"=none) (h_deeds_of:Has P w K mg base "deeds_of" 1 ["book"] D0) (h_touch:Has P w K mg base "touch" 3 ["one", "other"] RY):FnOk P w K mg base CX0 4 f fd ["book", "stand", "wished"] (spD K 3 FQ):=by
 refine fnD F FW fun cdv A outer s H E hr=>?_
 have hu:=hr.units
 have hu1:=zQ (a5Q (show 1<=64 by decide) _) hu
 have nd:=FW.nd
 have n0:=JS
 have n1:=JT
 refine⟨_,by walk_at "b2", ?_⟩
 clear nd n0 n1
 rintro xs M hl ⟨w,ls,st,ws,rfl,hg,hs,hw⟩
 have hfew:=hg.few
 have hls:=hs.len
 have hlw:=hw.len
 have hco:(coN st ws).length<=50:=zN (yJ _ _) (by omega)
 rw[show bxL w ls st ws=[.d (AW w ls),.d (.tuple (AB st)),.d (.tuple (AB ws))] from rfl]
 walk_at "r"
 refine O9 hg ?_
 walk_at "r"
 refine ZI (AN 0) (by simp[EK]) ?_
 refine B9 ?_
 walk_at "r"
 refine⟨by rw[AH];exact zQ (zN hlw hfew) (by decide),cKp st,nI,jA,trivial,?_,fun p hp=>?_⟩
 · intro d hd M'
   obtain⟨i,hi,rfl⟩:=zL.mp hd
   walk_at "dl"
   refine⟨rfl,?_⟩
   walk_at "r"
   refine K9 (ds:=AB st) rfl (CK _) ?_
   refine⟨_,rfl,rfl,rfl,fun _=>?_⟩
   walk_at "r"
   refine⟨rfl,rfl,?_⟩
   walk_at "r"
   exact⟨rfl,rfl⟩
 rw[jC hw.inc]
 walk_at "r"
 refine OL fun q hq=>?_
 have hpq:p≠q:=by rintro rfl;rw[zU] at hq;cases hq
 walk_at "wks"
 refine DQ (fun ρ1 M1=>∃E:EL,M1=(M.put p (.d (B4 (cvE (HZ (coN st ws)))))).put q (.d (B4 (cvE E)))/\E.map (·.1)=lfB ls st ws/\∃x6 x7:Option DS,ρ1=[some (.d (AW w ls)),some (.d (.tuple (AB st))),some (.d (.tuple (AB ws))),some (.d (.tuple ((dsL ls).map Deed.d))),some (.loc p),some (.loc q),x6,x7]) ?_ ?_
 · refine G9 ?_
   refine B9 ?_
   walk_at "r"
   refine⟨fun i ρ1 M1=>∃E:EL,M1=(M.put p (.d (B4 (cvE (HZ (coN st ws)))))).put q (.d (B4 (cvE E)))/\E.map (·.1)=lfL (tcN (dsL ls)) ws (coN st ws) (st.take i)/\LsI E i/\∃x6 x7:Option DS,ρ1=[some (.d (AW w ls)),some (.d (.tuple (AB st))),some (.d (.tuple (AB ws))),some (.d (.tuple ((dsL ls).map Deed.d))),some (.loc p),some (.loc q),x6,x7],⟨[],rfl,rfl,⟨by simp,by simp⟩,_,_,rfl⟩,?_,?_⟩
   · rintro i d ρ1 M1 hd ⟨E,rfl,hE,hL,x6,x7,rfl⟩
     obtain⟨k,hk,rfl⟩:=OJ hd
     have hks:=yN hk
     have hkl:=hs.lt k hks
     have hi:i < st.length:=(yT.mp hk).1
     have hkE:k∉E.map (·.1):=by
       rw[hE];intro z
       have:=((SA hs.inc hk).mp (HY.subset z)).2
       omega
     have hEm:∀t∈E,t.1∈st:=fun t ht=>a5V (HY.subset (by rw[← hE];exact zL.mpr ⟨t,ht,rfl⟩))
     have hEl:E.length<=i:=by
       have:=congrArg b2W hE
       rw[zX] at this
       rw[this]
       exact zN HY.length_le (by rw[a2X];omega)
     have hcv:(cvE E).length < sizeLine:=by unfold cvE;rw[zX];exact zQ (show _<=50 by omega) (by decide)
     obtain⟨l,hlk,hlm,hll,hld⟩:=IN hkl
     walk_at "r"
     refine K9 (ds:=AB ws) rfl (CK _) ?_
     rw[if_pos rfl,HX]
     cases hkw:decide (k∈ws) with
     | false=>
       walk_at "r"
       refine UL ?_
       walk_at "r"
       refine⟨q,cvE E,(k:Int),chD [k],rfl,rfl,rfl,zU,hcv,?_⟩
       rw[yI,WL,SD hkE]
       refine gT ?_
       refine⟨E++[(k,[k])],rfl,?_,hL.snoc rfl (by simp),_,_,rfl⟩
       rw[xI,hE,IP hk,if_pos (by unfold MJ;rw[hkw];rfl)]
       rfl
     | true=>
       walk_at "r"
       refine AF (AN 0) (by simp[EN]) ?_
       refine B3 ?_
       walk_at "r"
       refine OE ?_
       walk_at "r"
       refine⟨p,_,rfl,by rw[yH hpq];exact zU,?_⟩
       walk_at "r"
       refine OE ?_
       walk_at "r"
       refine⟨q,_,rfl,zU,?_⟩
       rw[Y7,Y7]
       refine HM (by simp only[zX];exact zN (show _<=100 by omega) (by decide)) ?_
       rw[← xI,← xI]
       have hbl:((HZ (coN st ws)++E).map (·.2)).length<=100:=by rw[zX,yY,zX];omega
       have hany:=eY (tc:=tcN (dsL ls)) (k:=k) (co:=coN st ws) hL
       refine⟨_,rfl,by rw[zX];exact zQ hbl (by decide),clD (tcN (dsL ls)) k,id,?_,?_⟩
       · intro d hd M'
         obtain⟨c,hc,rfl⟩:=zL.mp hd
         obtain⟨t,ht,rfl⟩:=zL.mp hc
         have hlast:t.2.getLast?=some t.1:=(yW.mp ht).elim ((SB _ 0).last t) (hL.last t)
         have htl:t.1 < ls.length:=by
           rcases yW.mp ht with z | z
           · obtain⟨m,hm,rfl⟩:=zL.mp z
             exact hw.lt m (yL.mp hm).1
           · exact hs.lt _ (hEm t z)
         obtain⟨l2,hlk2,hlm2,hll2,hld2⟩:=IN htl
         obtain⟨l1,_⟩:=j6 hlast
         have hcl:clD (tcN (dsL ls)) k (chD t.2)=(decide (t.1 < k)&&C0 l2.2.d l.2.d):=by
           rw[eV];unfold clN;rw[hlast];dsimp only;rw[kI hld2 hld]
         rw[hcl]
         walk_at "dl"
         refine⟨rfl,?_⟩
         rw[show chD t.2 = .tuple (AB t.2) from rfl]
         walk_at "r"
         refine AC (ds:=AB t.2) l1 ?_
         walk_at "r"
         rw[WS]
         cases hlt:decide (t.1 < k) with
         | false=>
           walk_at "r"
           exact⟨rfl,rfl,fun z=>absurd z nft⟩
         | true=>
           walk_at "r"
           refine AC (ds:=AB t.2) l1 ?_
           walk_at "r"
           refine AC (ds:=(dsL ls).map Deed.d) (d:=l2.2.d) (AD (by rw[zF,hld2];rfl)) ?_
           walk_at "r"
           refine AC (ds:=(dsL ls).map Deed.d) (d:=l.2.d) (AD (by rw[zF,hld];rfl)) ?_
           walk_at "r"
           refine NJ ⟨EU (hg.real _ hlm2),EU (hg.real _ hlm)⟩ ?_
           refine⟨_,rfl,rfl,rfl,fun _=>?_⟩
           walk_at "r"
           exact⟨rfl,rfl⟩
       rw[a8]
       have hanyF:((((HZ (coN st ws)++E).map (·.2)).filter (clN (tcN (dsL ls)) k))=[])↔MJ (tcN (dsL ls)) ws (coN st ws) (lfL (tcN (dsL ls)) ws (coN st ws) (st.take i)) k=false:=by
         unfold MJ
         rw[← hE,← hany,hkw,Bool.not_true,Bool.false_or,List.filter_eq_nil_iff,List.any_eq_false]
       have hmem:∀c∈((HZ (coN st ws)++E).map (·.2)).filter (clN (tcN (dsL ls)) k),c.length<=i+1:=fun c hc=>by
         obtain⟨t,ht,rfl⟩:=zL.mp (yL.mp hc).1
         rcases yW.mp ht with z | z
         · exact(SB (coN st ws) i).few t z
         · exact hL.few t z
       revert hanyF hmem
       generalize (((HZ (coN st ws)++E).map (·.2)).filter (clN (tcN (dsL ls)) k))=L
       intro hanyF hmem
       walk_at "r"
       refine RN ?_
       cases L with
       | nil=>
         walk_at "r"
         refine⟨?_,hL.more,_,_,rfl⟩
         rw[hE,IP hk,if_neg (by rw[hanyF.mp rfl];decide)]
       | cons c r=>
         have hcl:=hmem c (by simp)
         walk_at "r"
         rw[if_pos (decide_eq_true (by rw[zX,yR];omega))]
         refine UL ?_
         walk_at "r"
         refine BO (ds:=(c::r).map chD) (d:=.tuple (AB c)) (AD (j:=0) rfl) ?_
         walk_at "r"
         refine cB (as:=AB c) (bs:=[.int (k:Int)]) (by rw[AH];exact zN (show c.length+1<=60 by omega) (by decide)) ?_
         walk_at "r"
         refine⟨q,cvE E,(k:Int),chD (c++[k]),by rw[LD];rfl,rfl,rfl,zU,hcv,?_⟩
         rw[yI,WL,SD hkE]
         refine⟨E++[(k,c++[k])],rfl,?_,hL.snoc (by rw[List.getLast?_append];rfl) (by rw[yY];simp;omega),_,_,rfl⟩
         rw[xI,hE,IP hk,if_pos (Decidable.byContradiction fun z=>by
           have:=hanyF.mpr (by simpa using z)
           cases this)]
         rfl
   · rintro ρ1 M1 ⟨E,rfl,hE,hL,x6,x7,rfl⟩
     rw[AH,a3X] at hE
     exact⟨E,rfl,hE,_,_,rfl⟩
 · rintro ρ1 M1 ⟨E,rfl,hE,x6,x7,rfl⟩
   walk_at "r"
   have hMq:M q=none:=by rw[yH (b1Q hpq)] at hq;exact hq
   refine⟨M.put q (.d (B4 (cvE E))),?_,fun w' ls' st' ws' e=>?_⟩
   · rw[Own.put_comm hpq]
     exact(zT _).put (by rw[yH hpq];exact hp)
   · obtain⟨rfl,rfl,rfl⟩:=SE e
     exact⟨q,E,hMq,rfl,rfl,hE⟩
end
def KK:List Str:=["book", "stand", "wished"]
theorem F5:FnScope KK ["book", "stand", "wished"] (AA BR):=⟨rfl,rfl,rfl,by decide +kernel,rfl,by decide +kernel,by decide +kernel⟩
section
local macro_rules | `(tactic| walk_at "y")=>`(tactic| first | ((with_reducible show PE _ (.Call (.Name (a0Q "sorted") _) ..) _);exact @BW _ _ _ _ _ _ _ _ _ (@WI _ K rfl rfl) (by rfl) n_sorted a9J (by walk_at "a") (by decide) (by decide) (by rfl) (by rfl)))
theorem KL {f:Addr}{fd:FuncData}(F:Fun K "lifted_between" "lifted_between" BR f fd) (n_sorted:mg "sorted"=none) (n_tuple:mg "tuple"=none) (h_lifts_by_ends:Has P w K mg base "lifts_by_ends" 4 ["book", "stand", "wished"] FQ):FnOk P w K mg base CX0 5 f fd ["book", "stand", "wished"] (spD K 3 BL):=by
 refine fnD F F5 fun cdv A outer s H E hr=>?_
 have hu:=hr.units
 have nd:=F5.nd
 refine⟨_,by walk_at "b1", ?_⟩
 clear nd
 rintro xs M hl ⟨w,ls,st,ws,rfl,hg,hs,hw⟩
 have hfew:=hg.few
 have hlen:=hs.len
 walk_at "r"
 refine WR hg hs hw fun p E hp hE=>?_
 have hEl:(cvE E).length<=50:=by
   unfold cvE
   have:=congrArg b2W hE
   rw[zX] at this
   rw[zX,this]
   exact zN HY.length_le (by omega)
 walk_at "r"
 refine ZJ zU (by omega) fun ss hpm hss=>?_
 walk_at "r"
 refine ER ?_
 refine⟨M,(zT M).put hp,fun w' ls' st' ws' e=>?_⟩
 obtain⟨rfl,rfl,rfl⟩:=SE e
 refine⟨?_,rfl⟩
 have e1:(cvE E).map (·.1)=CB (lfB ls st ws):=by
   rw[← hE];unfold cvE CB;rw[zD,zD];rfl
 rw[e1] at hpm
 have hinc:(CB (lfB ls st ws)).Pairwise (· < ·):=O7 (hs.inc.sublist HY)
 rw[N2 (WK hss (hpm.nodup_iff.mpr (hinc.imp fun {a b} q=>by omega))) hinc fun a=>hpm.mem_iff]
 rfl
end
def aI:List Str:=["book", "stand", "wished"]
theorem QS:FnScope aI ["book", "stand", "wished"] (AA KG):=⟨rfl,rfl,rfl,by decide +kernel,rfl,by decide +kernel,by decide +kernel⟩
theorem aJ {f:Addr}{fd:FuncData}(F:Fun K "lifted" "lifted" KG f fd) (h_lifted_between:Has P w K mg base "lifted_between" 5 ["book", "stand", "wished"] BL) (h_refuse_no_stand:Has P w K mg base "refuse_no_stand" 6 ["book", "thing"] EG):FnOk P w K mg base CX0 7 f fd ["book", "stand", "wished"] (spD K 3 BL):=by
 refine fnD F QS fun cdv A outer s H E hr=>?_
 have hu:=hr.units
 have nd:=QS.nd
 refine⟨_,by walk_at "b2", ?_⟩
 clear nd
 rintro xs M hl ⟨w,ls,st,ws,rfl,hg,hs,hw⟩
 walk_at "r"
 refine IX hg hs ?_
 walk_at "r"
 refine IX hg hw ?_
 walk_at "r"
 refine D7 hg hs hw ?_
 refine⟨M,zT M,fun w' ls' st' ws' e=>?_⟩
 obtain⟨rfl,rfl,rfl⟩:=SE e
 exact⟨rfl,rfl⟩
def FC:List Str:=["_law_pack", "_law_amount", "_law_letters", "_law_turn", "_law_pick", "_law_size"]
def GR:List Str:=["_law_k", "_law_letters"]
def GS:List (Option Nat):=[none,some 2]
theorem ML:GR.Nodup:=by decide +kernel
def GT:List Str:=["_law_k", "_law_letters", "_law_size"]
def DW:List (Option Nat):=[none,some 2,some 5]
theorem MM:GT.Nodup:=by decide +kernel
theorem J7:FnScope FC ["_law_pack", "_law_amount"] (AA BS):=⟨rfl,rfl,rfl,by decide +kernel,rfl,by decide +kernel,by decide +kernel⟩
section
local macro_rules | `(tactic| walk_at "cs")=>`(tactic| first | exact @DJ _ _ GR GS (AA BS) FC (by decide +kernel) (by decide +kernel) rfl rfl | exact @DJ _ _ GT DW (AA BS) FC (by decide +kernel) (by decide +kernel) rfl rfl)
local macro_rules | `(tactic| walk_at "x")=>`(tactic| first | ((with_reducible show PE _ (.BinOp _ .Mult ..) _);exact @IS _ _ _ _ _ _ _ _ (@nD _ K rfl) (by walk_at "e") (by walk_at "e")))
theorem PB {f:Addr}{fd:FuncData}(F:Fun K "_law_names" "_law_names" BS f fd) (n_range:mg "range"=none) (h__law_take:Has P w K mg base "_law_take" 1 ["_law_pack", "_law_size"] B7):FnOk P w K mg base CX0 2 f fd ["_law_pack", "_law_amount"] (spD K 2 CG):=by
 refine fnD F J7 fun cdv A outer s H E hr=>?_
 have hu:=hr.units
 have nd:=J7.nd
 have n0:=ML
 have n1:=MM
 refine⟨_,by walk_at "b2", ?_⟩
 clear nd n0 n1
 rintro xs M hl ⟨p,n,o,rfl,m,ho,hn0,hn1⟩
 obtain⟨N,rfl⟩:∃N:Nat,n=(N:Int):=⟨n.toNat,by omega⟩
 have hlz:((a0Q "abcdefghijklmnopqrstuvwxyz"):Str).length<=sizeLine:=by rw[HP];decide
 walk_at "r"
 refine AX m ho (by decide) (by decide) fun v1 o1 hv0 hv1 ho1=>?_
 obtain⟨t,rfl⟩:∃t:Nat,v1=(t:Int):=⟨v1.toNat,by omega⟩
 walk_at "r"
 refine K2 hlz ?_
 walk_at "r"
 refine K2 hlz ?_
 refine NH (zN (Nat.add_le_add (Q5 _ _ _ (Nat.le_of_eq HP)) (Q5 _ _ _ (Nat.le_of_eq HP))) (by decide)) ?_
 have hRl:W1 (a0W (a0Q "abcdefghijklmnopqrstuvwxyz") (some (t:Int)) none++a0W (a0Q "abcdefghijklmnopqrstuvwxyz") none (some (t:Int))):=by
   refine NN (fun c hc=>?_) (fun c hc=>?_)
   · rw[GD] at hc;exact NI c (b0J hc)
   · exact NI c (Z2 hc)
 have hRn:(a0W (a0Q "abcdefghijklmnopqrstuvwxyz") (some (t:Int)) none++a0W (a0Q "abcdefghijklmnopqrstuvwxyz") none (some (t:Int))).cps.toList.length=26:=by
   rw[AQ,yY,GD,GA,a3V,a2X,← L3,cG];exact nG (xR (Int.ofNat_lt.mp hv1))
 have hRd:(a0W (a0Q "abcdefghijklmnopqrstuvwxyz") (some (t:Int)) none++a0W (a0Q "abcdefghijklmnopqrstuvwxyz") none (some (t:Int))).cps.toList.Nodup:=by
   rw[AQ,GD,GA];exact ZF t
 have hRrun:Run (a0W (a0Q "abcdefghijklmnopqrstuvwxyz") (some (t:Int)) none++a0W (a0Q "abcdefghijklmnopqrstuvwxyz") none (some (t:Int))).cps.toList:=by
   rw[AQ,GD,GA];exact nM (dE t (by omega))
 revert hRl hRn hRd hRrun
 generalize a0W (a0Q "abcdefghijklmnopqrstuvwxyz") (some (t:Int)) none++a0W (a0Q "abcdefghijklmnopqrstuvwxyz") none (some (t:Int))=R
 intro hRl hRn hRd hRrun
 have hRz:R.length<=sizeLine:=by
   have:R.length=R.cps.toList.length:=by simp[Str.length]
   rw[this,hRn];decide
 have hRat:∀k:Nat,k < 26->∃c,atI R.cps.toList (k:Int)=some c/\K3 c=true:=fun k hk=>by
   have hk':k < R.cps.toList.length:=by rw[hRn];exact hk
   exact⟨R.cps.toList[k],AD (zV hk'),hRl _ (b1X hk')⟩
 walk_at "r"
 refine AX zU ho1 (by decide) (by decide) fun v2 o2 _ _ ho2=>?_
 rw[yI]
 walk_at "r"
 refine AX zU ho2 (by decide) (by decide) fun v3 o3 h30 h31 ho3=>?_
 rw[yI]
 obtain⟨s3,rfl⟩:∃s3:Nat,v3=(s3:Int):=⟨v3.toNat,by omega⟩
 have hmid:W1 (a0W R (some 3) (some (3+(s3:Int))))/\(a0W R (some 3) (some (3+(s3:Int)))).cps.toList.length<=7/\Run (a0W R (some 3) (some (3+(s3:Int)))).cps.toList:=by
   have e:(a0W R (some 3) (some (3+(s3:Int)))).cps.toList=(R.cps.toList.take (3+s3)).drop 3:=Z7 R 3 (3+s3)
   refine⟨fun c hc=>?_,?_,?_⟩
   · rw[e] at hc;exact hRl c (a5V (b0J hc))
   · rw[e,a3V,a2X];exact nH (Nat.le_of_lt_succ (Int.ofNat_lt.mp h31))
   · rw[e];exact(hRrun.take _).drop _
 have hids:(CD 0 N).length=N:=by simp[CD]
 have hN:N<=26:=Int.ofNat_le.mp hn1
 have hsz:(CD 0 N).length < sizeLine:=by rw[hids];exact zQ hN (by decide)
 have fin:∀(g:PyData->PyData),(∀k:Nat,k < N->∃z,g (.int k) = .str z/\AS z/\z∉MI)->(∀i j:Nat,i < N->j < N->g (.int i)=g (.int j)->i=j)->∃ys:List Str,((CD 0 N).filter fun _=>true).map g=ys.map .str/\ys.length=N/\(∀z∈ys,AS z/\z∉MI)/\ys.Nodup:=fun g hg hi=>by
   rw[flt]
   refine⟨(a0J N).map fun(k:Nat)=>BX (g (.int (k:Int))),?_,by simp,?_,?_⟩
   · unfold CD
     rw[zD,zD]
     apply yM
     intro k hk
     obtain⟨z,e,_⟩:=hg k (List.mem_range.mp hk)
     show g (.int (0+(k:Int))) = .str (BX (g (.int k)))
     rw[Int.zero_add,e];rfl
   · intro z hz
     obtain⟨k,hk,rfl⟩:=zL.mp hz
     obtain⟨z,e,h⟩:=hg k (List.mem_range.mp hk)
     rw[e];exact h
   · refine nodup_range fun i j h1 h2 e=>hi i j h1 h2 ?_
     obtain⟨z1,e1,_⟩:=hg i h1
     obtain⟨z2,e2,_⟩:=hg j h2
     rw[e1,e2] at e ⊢
     exact congrArg a0K e
 walk_at "r"
 refine AU rfl rfl ?_
 rw[if_neg nft]
 walk_at "r"
 refine m4 (fun h=>?_) (fun h=>?_)
 · walk_at "r"
   refine AF (AN 0) (by simp[GS]) ?_
   refine G8 ?_
   walk_at "r"
   refine⟨by omega,by omega,?_⟩
   rw[a7Z]
   have hel:∀k:Nat,k < N->∃c,atI R.cps.toList ((k:Int)/8)=some c/\K3 c=true:=fun k hk=>hRat (k/8) (W0 hk hN)
   refine⟨hsz,fun _=>true,nmA R,?_,?_⟩
   · intro d hd M'
     obtain⟨k,hk,rfl⟩:=zL.mp hd
     obtain⟨c,e1,e2⟩:=hel k (List.mem_range.mp hk)
     rw[Int.zero_add]
     walk_at "dl"
     refine⟨rfl,?_⟩
     walk_at "dl"
     refine⟨rfl,rfl,fun _=>?_⟩
     walk_at "r"
     refine RM hRz e1 ?_
     walk_at "r"
     refine nE (JM _).1 (JM _).2.1 (by show 1<=1000;decide) ?_
     exact⟨by rw[RZ e1],rfl⟩
   · have iA:∀i j:Nat,i < N->j < N->(nmA R) (.int i)=(nmA R) (.int j)->i=j:=fun i j h1 h2 e=>by
       obtain⟨c1,q1,_⟩:=hel i h1
       obtain⟨c2,q2,_⟩:=hel j h2
       rw[RZ q1,RZ q2] at e
       have e':MH ⟨#[c1]⟩ (1+(i:Int) % 8)=MH ⟨#[c2]⟩ (1+(j:Int) % 8):=by injection e
       obtain⟨hcc,hmn⟩:=iU (JM _).1 (JM _).1 e'
       subst hcc
       have hq:=O2 (i:=i/8) (j:=j/8) hRd q1 q2 (by rw[hRn];exact W0 h1 hN) (by rw[hRn];exact W0 h2 hN)
       exact pS hmn hq
     have hA:∀k:Nat,k < N->∃z,(nmA R) (.int k) = .str z/\AS z/\z∉MI:=fun k hk=>by
       obtain⟨c,q1,q2⟩:=hel k hk
       have hz:=RW (c:=c) (n:=1+(k:Int) % 8) (JM k).1
       refine⟨MH ⟨#[c]⟩ (1+(k:Int) % 8),RZ q1,?_,iR hz⟩
       refine NM (fun d hd=>?_) ?_ ?_
       · rw[hz] at hd;rw[b1V hd];exact q2
       · rw[hz,a9Z];exact(JM k).2.2.1
       · rw[hz,a9Z];exact(JM k).2.2.2
     obtain⟨ys,e1,e2,e3,e4⟩:=fin (nmA R) hA iA
     rw[e1]
     refine⟨_,zT _,fun p' n' e=>?_⟩
     cases e
     exact⟨ys,o3,rfl,by rw[e2],fun z hz=>(e3 z hz).1,fun z hz=>(e3 z hz).2,e4,ho3,rfl⟩
 · walk_at "r"
   refine AU rfl rfl ?_
   rw[if_neg nft]
   walk_at "r"
   have hel:∀k:Nat,k < N->∃c,atI R.cps.toList (k:Int)=some c/\K3 c=true:=fun k hk=>hRat k (zP hk hN)
   have hszs:∀c:Nat,(⟨#[c]⟩:Str).length+(a0W R (some 3) (some (3+(s3:Int)))).length<=sizeLine:=fun c=>by
     have:(a0W R (some 3) (some (3+(s3:Int)))).length=(a0W R (some 3) (some (3+(s3:Int)))).cps.toList.length:=by simp[Str.length]
     rw[this]
     exact zN (Nat.add_le_add (zR 1) hmid.2.1) (by decide)
   refine m4 (fun h2=>?_) (fun h2=>?_)
   · walk_at "r"
     refine AF (AN 0) (by simp[DW]) ?_
     refine G8 ?_
     walk_at "r"
     refine⟨by omega,by omega,?_⟩
     rw[a7Z]
     refine⟨hsz,fun _=>true,nmB R (a0W R (some 3) (some (3+(s3:Int)))),?_,?_⟩
     · intro d hd M'
       obtain⟨k,hk,rfl⟩:=zL.mp hd
       obtain⟨c,e1,e2⟩:=hel k (List.mem_range.mp hk)
       rw[Int.zero_add]
       walk_at "dl"
       refine⟨rfl,?_⟩
       walk_at "dl"
       refine⟨rfl,rfl,fun _=>?_⟩
       walk_at "r"
       refine RM hRz e1 ?_
       walk_at "r"
       refine K2 hRz ?_
       refine NH (hszs c) ?_
       exact⟨by rw[S0 e1],rfl⟩
     · have iB:∀i j:Nat,i < N->j < N->(nmB R (a0W R (some 3) (some (3+(s3:Int))))) (.int i)=(nmB R (a0W R (some 3) (some (3+(s3:Int))))) (.int j)->i=j:=fun i j h1 h2 e=>by
         obtain⟨c1,q1,_⟩:=hel i h1
         obtain⟨c2,q2,_⟩:=hel j h2
         rw[S0 q1,S0 q2] at e
         have e':(⟨#[c1]⟩:Str)++a0W R (some 3) (some (3+(s3:Int)))=⟨#[c2]⟩++a0W R (some 3) (some (3+(s3:Int))):=by injection e
         have hc:=dF e'
         subst hc
         exact O2 hRd q1 q2 (by rw[hRn];exact zP h1 hN) (by rw[hRn];exact zP h2 hN)
       have hB:∀k:Nat,k < N->∃z,(nmB R (a0W R (some 3) (some (3+(s3:Int))))) (.int k) = .str z/\AS z/\z∉MI:=fun k hk=>by
         obtain⟨c,q1,q2⟩:=hel k hk
         refine⟨_,S0 q1,?_,iS (c:=c) (by rw[AQ];rfl) hmid.2.2⟩
         refine NM (NN (TX q2) hmid.1) ?_ ?_
         · rw[AQ,yY];exact a8Z 1 _
         · rw[AQ,yY];exact a5Q hmid.2.1 1
       obtain⟨ys,e1,e2,e3,e4⟩:=fin (nmB R (a0W R (some 3) (some (3+(s3:Int))))) hB iB
       rw[e1]
       refine⟨_,zT _,fun p' n' e=>?_⟩
       cases e
       exact⟨ys,o3,rfl,by rw[e2],fun z hz=>(e3 z hz).1,fun z hz=>(e3 z hz).2,e4,ho3,rfl⟩
   · walk_at "r"
     refine AF (AN 0) (by simp[DW]) ?_
     refine G8 ?_
     walk_at "r"
     refine⟨by omega,by omega,?_⟩
     rw[a7Z]
     refine⟨hsz,fun _=>true,nmC R (a0W R (some 3) (some (3+(s3:Int)))),?_,?_⟩
     · intro d hd M'
       obtain⟨k,hk,rfl⟩:=zL.mp hd
       obtain⟨c,e1,e2⟩:=hel k (List.mem_range.mp hk)
       rw[Int.zero_add]
       walk_at "dl"
       refine⟨rfl,?_⟩
       walk_at "dl"
       refine⟨rfl,rfl,fun _=>?_⟩
       walk_at "r"
       refine K2 hRz ?_
       walk_at "r"
       refine RM hRz e1 ?_
       refine NH (by rw[Nat.add_comm];exact hszs c) ?_
       exact⟨by rw[S3 e1],rfl⟩
     · have iC:∀i j:Nat,i < N->j < N->(nmC R (a0W R (some 3) (some (3+(s3:Int))))) (.int i)=(nmC R (a0W R (some 3) (some (3+(s3:Int))))) (.int j)->i=j:=fun i j h1 h2 e=>by
         obtain⟨c1,q1,_⟩:=hel i h1
         obtain⟨c2,q2,_⟩:=hel j h2
         rw[S3 q1,S3 q2] at e
         have e':a0W R (some 3) (some (3+(s3:Int)))++(⟨#[c1]⟩:Str)=a0W R (some 3) (some (3+(s3:Int)))++⟨#[c2]⟩:=by injection e
         have hc:=dG e'
         subst hc
         exact O2 hRd q1 q2 (by rw[hRn];exact zP h1 hN) (by rw[hRn];exact zP h2 hN)
       have hC:∀k:Nat,k < N->∃z,(nmC R (a0W R (some 3) (some (3+(s3:Int))))) (.int k) = .str z/\AS z/\z∉MI:=fun k hk=>by
         obtain⟨c,q1,q2⟩:=hel k hk
         refine⟨_,S3 q1,?_,iT (c:=c) (by rw[AQ]) hmid.2.2⟩
         refine NM (NN hmid.1 (TX q2)) ?_ ?_
         · rw[AQ,yY];exact Nat.le_add_left 1 _
         · rw[AQ,yY];exact b3V hmid.2.1 1
       obtain⟨ys,e1,e2,e3,e4⟩:=fin (nmC R (a0W R (some 3) (some (3+(s3:Int))))) hC iC
       rw[e1]
       refine⟨_,zT _,fun p' n' e=>?_⟩
       cases e
       exact⟨ys,o3,rfl,by rw[e2],fun z hz=>(e3 z hz).1,fun z hz=>(e3 z hz).2,e4,ho3,rfl⟩
end
def PD:List Str:=["_law_cell"]
theorem J8:FnScope PD ["_law_cell"] (AA E5):=⟨rfl,rfl,rfl,by decide +kernel,rfl,by decide +kernel,by decide +kernel⟩
section
local macro_rules | `(tactic| walk_at "x")=>`(tactic| first | ((with_reducible show PE _ (.BinOp _ .Mult ..) _);exact @IS _ _ _ _ _ _ _ _ (@nD _ K rfl) (by walk_at "e") (by walk_at "e")))
theorem PF {f:Addr}{fd:FuncData}(F:Fun K "_law_mixed" "_law_mixed" E5 f fd):FnOk P w K mg base CX0 1 f fd ["_law_cell"] (spD K 1 BQ):=by
 refine fnD F J8 fun cdv A outer s H E hr=>?_
 have hu:=hr.units
 have nd:=J8.nd
 refine⟨_,by walk_at "b1", ?_⟩
 clear nd
 rintro xs M hl ⟨c,rfl,hc⟩
 walk_at "r"
 refine cK (iX hc) ?_
 walk_at "r"
 exact⟨M,zT M,rfl,_,rfl⟩
end
def ST:List Str:=["_law_pack", "_law_size", "_law_digit"]
theorem KM:FnScope ST ["_law_pack", "_law_size"] (AA EZ):=⟨rfl,rfl,rfl,by decide +kernel,rfl,by decide +kernel,by decide +kernel⟩
section
local macro_rules | `(tactic| walk_at "x")=>`(tactic| first | ((with_reducible show PS _ (.Assign [.Tuple ..] ..) _);exact @VG _ _ _ _ _ _ (by walk_at "e") (by walk_at "g") (by rfl) (by rfl) (by rfl)) | ((with_reducible show PG _ (.Tuple ..) _);exact @cR _ K _ _ _ _ (2) rfl rfl (by walk_at "j") (by rfl) (by rfl)) | ((with_reducible show PG _ (.Subscript ..) _);exact @l4 _ _ _ _ _ _ _ (by walk_at "e") (by walk_at "e") (@aX _) (by intro _;rfl)))
theorem SU {f:Addr}{fd:FuncData}(F:Fun K "_law_take" "_law_take" EZ f fd) (n_divmod:mg "divmod"=none):FnOk P w K mg base CX0 1 f fd ["_law_pack", "_law_size"] (spD K 2 B7):=by
 refine fnD F KM fun cdv A outer s H E hr=>?_
 have hu:=hr.units
 have nd:=KM.nd
 refine⟨_,by walk_at "b2", ?_⟩
 clear nd
 rintro xs M hl ⟨p,size,o,rfl,m,⟨v,rfl⟩,h0,h1⟩
 walk_at "dl"
 refine RT ?_
 walk_at "r"
 refine Z6 h0 h1 ?_
 walk_at "r"
 refine⟨_,zT _,fun p' size' e=>?_⟩
 cases e
 exact⟨_,_,rfl,Int.emod_nonneg _ (by omega),Int.emod_lt_of_pos _ h0,⟨_,rfl⟩,rfl⟩
end
def KN:List Str:=["_law_pack", "_law_some", "_law_spare", "_law_kind", "_law_place", "_law_number", "_law_one", "_law_others"]
def IE:List Str:=["_law_name", "_law_one"]
def IF:List (Option Nat):=[none,some 6]
theorem OV:IE.Nodup:=by decide +kernel
theorem KO:FnScope KN ["_law_pack", "_law_some", "_law_spare"] (AA DN):=⟨rfl,rfl,rfl,by decide +kernel,rfl,by decide +kernel,by decide +kernel⟩
section
local macro_rules | `(tactic| walk_at "cs")=>`(tactic| first | exact @DJ _ _ IE IF (AA DN) KN (by decide +kernel) (by decide +kernel) rfl rfl)
local macro_rules | `(tactic| walk_at "x")=>`(tactic| first | ((with_reducible show PT _ (.Compare _ [.In] ..) _);exact @BN _ _ _ _ _ _ _ _ (@kIn _ K rfl) (by walk_at "e") (by walk_at "e") (by with_unfolding_all rfl)))
theorem SV {f:Addr}{fd:FuncData}(F:Fun K "_law_deed" "_law_deed" DN f fd) (n_int:mg "int"=none) (n_len:mg "len"=none) (h__law_take:Has P w K mg base "_law_take" 1 ["_law_pack", "_law_size"] B7):FnOk P w K mg base CX0 2 f fd ["_law_pack", "_law_some", "_law_spare"] (spD K 3 DD):=by
 refine fnD F KO fun cdv A outer s H E hr=>?_
 have hu:=hr.units
 have nd:=KO.nd
 have n0:=OV
 refine⟨_,by walk_at "b2", ?_⟩
 clear nd n0
 rintro xs M hl ⟨p,o,so,sp,rfl,m,ho,hno,hne0⟩
 have nd2:∀{z:Str},z∈so->z∉sp:=fun {z} h1 h2=>(List.nodup_append.mp hno.2.1).2.2 z h1 z h2 rfl
 walk_at "r"
 refine BA ?_
 walk_at "r"
 refine AX m ho (by decide) (by decide) fun v1 o1 a0 a1 ho1=>?_
 obtain⟨kd,ekd,hkd⟩:=N1 (ys:=GI) a0 a1
 refine BO (d:=.str kd) ekd ?_
 walk_at "r"
 refine AX zU ho1 (by decide) (by decide) fun pl o2 p0 p1 ho2=>?_
 rw[yI]
 walk_at "r"
 refine AX zU ho2 (by decide) (by decide) fun v3 o3 c0 c1 ho3=>?_
 rw[yI]
 walk_at "wks"
 refine DQ (fun ρ1 M1=>∃(kd:Str),kd∈GI/\(kd=a0Q "put" ∨ kd=a0Q "name" ∨ kd=a0Q "split" -> sp≠[])/\(kd≠a0Q "put" -> so≠[])/\M1=M.put p o3/\ρ1=[some (.loc p),some (.d (AY so)),some (.d (AY sp)),some (.d (.str kd)),some (.d (.int pl)),some (.d (.int (v3 - 20))),none,none]) ?_ ?_
 · have hs1:zH (AY so)=true:=CJ fun z hz=>hno.1 z (by simp[hz])
   have hs2:zH (AY sp)=true:=CJ fun z hz=>hno.1 z (by simp[hz])
   have fin:∀b:Bool,sp.isEmpty=b->∃k2:Str,atI [a0K (a0Q "put"),.str (a0Q "move")] (if b then 1 else 0)=some (.str k2)/\k2∈GI/\((b=false/\k2=a0Q "put")∨(b=true/\k2=a0Q "move")):=fun b _=>by
     cases b with
     | true=>exact⟨"move", rfl,by simp[GI],.inr ⟨rfl,rfl⟩⟩
     | false=>exact⟨"put", rfl,by simp[GI],.inl ⟨rfl,rfl⟩⟩
   walk_at "wkd"
   refine AU hs1 rfl ?_
   rw[if_neg nft,BK]
   cases hso:so.isEmpty with
   | true=>
     have so0:so=[]:=List.isEmpty_iff.mp hso
     have sp0:sp≠[]:=hne0.resolve_left fun q=>q so0
     have spe:sp.isEmpty=false:=by cases sp with | nil=>exact absurd rfl sp0 | cons _ _=>rfl
     walk_at "r"
     refine BA ?_
     walk_at "wkd"
     refine AU hs2 rfl ?_
     rw[if_neg nft,BK,spe]
     walk_at "r"
     refine BO (d:=.str (a0Q "put")) rfl ?_
     exact⟨"put", by simp[GI],fun _=>sp0,fun q=>absurd rfl q,rfl,rfl⟩
   | false=>
     have so1:so≠[]:=fun q=>by rw[q] at hso;cases hso
     walk_at "wkd"
     refine AU hs2 rfl ?_
     rw[if_neg nft,BK]
     cases hsp:sp.isEmpty with
     | false=>
       have sp1:sp≠[]:=fun q=>by rw[q] at hsp;cases hsp
       walk_at "r"
       exact⟨kd,hkd,fun _=>sp1,fun _=>so1,rfl,rfl⟩
     | true=>
       walk_at "r"
       refine BA ?_
       walk_at "r"
       refine D6 (ys:=["put", "name", "split"]) ?_
       cases hin:decide (kd∈[a0Q "put", "name", "split"]) with
       | false=>
         walk_at "r"
         refine⟨kd,hkd,fun q=>?_,fun _=>so1,rfl,rfl⟩
         have:=of_decide_eq_false hin
         simp only[yX,xX,or_false] at this
         exact absurd q this
       | true=>
         walk_at "r"
         refine BA ?_
         walk_at "wkd"
         refine AU hs2 rfl ?_
         rw[if_neg nft,BK,hsp]
         walk_at "r"
         refine BO (d:=.str (a0Q "move")) rfl ?_
         exact⟨"move", by simp[GI],fun q=>by rcases q with q | q | q <;> exact absurd q (by decide +kernel),fun _=>so1,rfl,rfl⟩
 · rintro ρ1 M1 ⟨kd,hkd,k1,k2,rfl,rfl⟩
   generalize v3 - 20=nu
   walk_at "r"
   refine AU (FM hkd) (by decide +kernel) ?_
   rw[if_neg nft,BF]
   cases e1:(kd==a0Q "put") with
   | true=>
     have ek:kd=a0Q "put" := eq_of_beq e1
     walk_at "r"
     obtain⟨s0,sr,rfl⟩:∃s0 sr,sp=s0::sr:=by
       cases sp with
       | nil=>exact absurd rfl (k1 (.inl ek))
       | cons a r=>exact⟨a,r,rfl⟩
     refine BO (ds:=(s0::sr).map .str) (AD (j:=0) rfl) ?_
     walk_at "r"
     refine⟨_,zT _,fun p' so' sp' e=>?_⟩
     obtain⟨rfl,rfl,rfl⟩:=EV e
     exact⟨.put s0 pl nu,_,rfl,⟨fun z hz=>by simp[Deed.names] at hz;subst hz;exact hno.1 _ (by simp),trivial,⟨p0,by omega⟩⟩,DC fun n hn=>by simp[Deed.names] at hn;subst hn;simp[Deed.made];exact fun q=>nd2 q (by simp),fun n e=>by simp[Deed.made] at e;subst e;rfl,ho3,rfl⟩
   | false=>
     have kne:kd≠a0Q "put" := fun q=>by rw[q] at e1;simp at e1
     have hso:=k2 kne
     have hsl:0 < so.length:=List.length_pos_iff.mpr hso
     have hs26:so.length<=26:=by have:=hno.2.2;rw[yY] at this;omega
     walk_at "r"
     refine RN ?_
     rw[zX]
     walk_at "r"
     refine AX zU ho3 (by omega) (by omega) fun v4 o4 d0 d1 ho4=>?_
     rw[yI]
     obtain⟨y1,ey1,my1⟩:=N1 (ys:=so) d0 d1
     have hy1:AS y1:=hno.1 y1 (by simp[my1])
     refine BO ey1 ?_
     walk_at "r"
     refine AF (AN 0) (by simp[IF]) ?_
     refine B3 ?_
     walk_at "r"
     refine⟨by rw[zX];exact zQ hs26 (by decide),fun d=>!a0Z d (.str y1),id,?_,?_⟩
     · intro d hd M'
       obtain⟨z,hz,rfl⟩:=zL.mp hd
       walk_at "r"
       refine⟨rfl,?_⟩
       walk_at "r"
       refine AU (AM (hno.1 z (by simp[hz]))) (AM hy1) ?_
       rw[if_pos rfl]
       walk_at "r"
       refine⟨rfl,rfl,fun _=>?_⟩
       walk_at "r"
       exact⟨rfl,rfl⟩
     rw[CZ]
     walk_at "r"
     refine AU (FM hkd) (by decide +kernel) ?_
     rw[if_neg nft,BF]
     cases e2:(kd==a0Q "move") with
     | true=>
       have ek:kd=a0Q "move" := eq_of_beq e2
       walk_at "r"
       refine⟨_,zT _,fun p' so' sp' e=>?_⟩
       obtain⟨rfl,rfl,rfl⟩:=EV e
       exact⟨.move y1 pl,_,rfl,⟨fun z hz=>by simp[Deed.names] at hz;subst hz;exact hy1,trivial,⟨p0,by omega⟩⟩,DC fun n hn=>by simp[Deed.names] at hn;subst hn;simp[Deed.made,my1],fun n e=>by simp[Deed.made] at e,ho4,rfl⟩
     | false=>
       walk_at "r"
       refine AU (FM hkd) (by decide +kernel) ?_
       rw[if_neg nft,BF]
       cases e3:(kd==a0Q "take") with
       | true=>
         have ek:kd=a0Q "take" := eq_of_beq e3
         walk_at "r"
         refine⟨_,zT _,fun p' so' sp' e=>?_⟩
         obtain⟨rfl,rfl,rfl⟩:=EV e
         exact⟨.take y1,_,rfl,⟨fun z hz=>by simp[Deed.names] at hz;subst hz;exact hy1,trivial,trivial⟩,DC fun n hn=>by simp[Deed.names] at hn;subst hn;simp[Deed.made,my1],fun n e=>by simp[Deed.made] at e,ho4,rfl⟩
       | false=>
         walk_at "r"
         refine AU (FM hkd) (by decide +kernel) ?_
         rw[if_neg nft,BF]
         cases e4:(kd==a0Q "name") with
         | true=>
           have ek:kd=a0Q "name" := eq_of_beq e4
           walk_at "r"
           obtain⟨s0,sr,rfl⟩:∃s0 sr,sp=s0::sr:=by
             cases sp with
             | nil=>exact absurd rfl (k1 (.inr (.inl ek)))
             | cons a r=>exact⟨a,r,rfl⟩
           have hne:y1≠s0:=fun q=>nd2 my1 (by rw[q];simp)
           have hs0:AS s0:=hno.1 s0 (by simp)
           refine BO (ds:=(s0::sr).map .str) (AD (j:=0) rfl) ?_
           walk_at "r"
           refine⟨_,zT _,fun p' so' sp' e=>?_⟩
           obtain⟨rfl,rfl,rfl⟩:=EV e
           exact⟨.name y1 s0,_,rfl,⟨fun z hz=>by simp[Deed.names] at hz;rcases hz with rfl | rfl;exact hy1;exact hs0,hne,trivial⟩,DC fun n hn=>by simp[Deed.names] at hn;rcases hn with rfl | rfl;(simp[Deed.made,my1];exact fun q=>hne q.symm);(simp[Deed.made];exact fun q=>nd2 q (by simp)),fun n e=>by simp[Deed.made] at e;subst e;rfl,ho4,rfl⟩
         | false=>
           walk_at "r"
           refine AU (FM hkd) (by decide +kernel) ?_
           rw[if_neg nft,BF]
           cases e5:(kd==a0Q "split") with
           | true=>
             have ek:kd=a0Q "split" := eq_of_beq e5
             walk_at "r"
             obtain⟨s0,sr,rfl⟩:∃s0 sr,sp=s0::sr:=by
               cases sp with
               | nil=>exact absurd rfl (k1 (.inr (.inr ek)))
               | cons a r=>exact⟨a,r,rfl⟩
             have hne:y1≠s0:=fun q=>nd2 my1 (by rw[q];simp)
             have hs0:AS s0:=hno.1 s0 (by simp)
             refine BO (ds:=(s0::sr).map .str) (AD (j:=0) rfl) ?_
             walk_at "r"
             refine⟨_,zT _,fun p' so' sp' e=>?_⟩
             obtain⟨rfl,rfl,rfl⟩:=EV e
             exact⟨.split y1 s0 pl nu,_,rfl,⟨fun z hz=>by simp[Deed.names] at hz;rcases hz with rfl | rfl;exact hy1;exact hs0,hne,⟨p0,by omega⟩⟩,DC fun n hn=>by simp[Deed.names] at hn;rcases hn with rfl | rfl;(simp[Deed.made,my1];exact fun q=>hne q.symm);(simp[Deed.made];exact fun q=>nd2 q (by simp)),fun n e=>by simp[Deed.made] at e;subst e;rfl,ho4,rfl⟩
           | false=>
             walk_at "r"
             refine AU (FM hkd) (by decide +kernel) ?_
             rw[if_neg nft,BF]
             cases e6:(kd==a0Q "join") with
             | false=>
               walk_at "r"
               refine⟨_,zT _,fun p' so' sp' e=>?_⟩
               obtain⟨rfl,rfl,rfl⟩:=EV e
               exact⟨.count y1 nu,_,rfl,⟨fun z hz=>by simp[Deed.names] at hz;subst hz;exact hy1,trivial,trivial⟩,DC fun n hn=>by simp[Deed.names] at hn;subst hn;simp[Deed.made,my1],fun n e=>by simp[Deed.made] at e,ho4,rfl⟩
             | true=>
               walk_at "wkd"
               have hfn:∀z∈so.filter (fun z=>decide (z≠y1)),AS z:=fun z hz=>hno.1 z (by simp[(yL.mp hz).1])
               refine AU (CJ hfn) rfl ?_
               rw[if_pos rfl,show a0Z (.list ((so.filter fun z=>decide (z≠y1)).map .str)) (.list [])=(so.filter fun z=>decide (z≠y1)).isEmpty from BK _]
               cases ho:(so.filter fun z=>decide (z≠y1)).isEmpty with
               | true=>
                 walk_at "r"
                 refine⟨_,zT _,fun p' so' sp' e=>?_⟩
                 obtain⟨rfl,rfl,rfl⟩:=EV e
                 exact⟨.count y1 nu,_,rfl,⟨fun z hz=>by simp[Deed.names] at hz;subst hz;exact hy1,trivial,trivial⟩,DC fun n hn=>by simp[Deed.names] at hn;subst hn;simp[Deed.made,my1],fun n e=>by simp[Deed.made] at e,ho4,rfl⟩
               | false=>
                 have hol:0 < (so.filter fun z=>decide (z≠y1)).length:=by
                   rw[List.length_pos_iff];intro q;rw[q] at ho;cases ho
                 have hol2:(so.filter fun z=>decide (z≠y1)).length<=26:=zN (yJ _ _) hs26
                 walk_at "r"
                 refine RN ?_
                 rw[zX]
                 walk_at "r"
                 refine AX zU ho4 (by omega) (by omega) fun v5 o5 f0 f1 ho5=>?_
                 rw[yI]
                 obtain⟨y2,ey2,my2⟩:=N1 (ys:=so.filter fun z=>decide (z≠y1)) f0 f1
                 have hy2:=hfn y2 my2
                 have hne:y1≠y2:=fun e=>by have:=(yL.mp my2).2;simp at this;exact this e.symm
                 refine BO ey2 ?_
                 walk_at "r"
                 refine⟨_,zT _,fun p' so' sp' e=>?_⟩
                 obtain⟨rfl,rfl,rfl⟩:=EV e
                 exact⟨.join y1 y2,_,rfl,⟨fun z hz=>by simp[Deed.names] at hz;rcases hz with rfl | rfl;exact hy1;exact hy2,hne,trivial⟩,DC fun n hn=>by simp[Deed.names] at hn;rcases hn with rfl | rfl;(simp[Deed.made,my1]);(simp[Deed.made,(yL.mp my2).1]),fun n e=>by simp[Deed.made] at e,ho5,rfl⟩
end
def FD:List Str:=["_law_deed_here", "_law_some", "_law_spare", "_law_stay", "_law_gone_name"]
def GU:List Str:=["_law_name", "_law_deed_here"]
def DY:List (Option Nat):=[none,some 0]
theorem MN:GU.Nodup:=by decide +kernel
def GV:List Str:=["_law_name", "_law_gone_name"]
def BE:List (Option Nat):=[none,some 4]
theorem MP:GV.Nodup:=by decide +kernel
theorem J9:FnScope FD ["_law_deed_here", "_law_some", "_law_spare"] (AA BU):=⟨rfl,rfl,rfl,by decide +kernel,rfl,by decide +kernel,by decide +kernel⟩
section
local macro_rules | `(tactic| walk_at "cs")=>`(tactic| first | exact @DJ _ _ GU DY (AA BU) FD (by decide +kernel) (by decide +kernel) rfl rfl | exact @DJ _ _ GV BE (AA BU) FD (by decide +kernel) (by decide +kernel) rfl rfl)
local macro_rules | `(tactic| walk_at "x")=>`(tactic| first | ((with_reducible show PT _ (.Compare _ [.In] ..) _);exact @BN _ _ _ _ _ _ _ _ (@kIn _ K rfl) (by walk_at "e") (by walk_at "e") (by with_unfolding_all rfl)) | ((with_reducible show PE _ (.Call (.Attribute _ (a0Q "get") _) ..) _);exact @bF _ _ _ _ _ _ _ _ _ hu1 (by walk_at "e") (by walk_at "e") (by walk_at "e") (@L2.M2.mk _ _ _ _ _ _ _ rfl rfl rfl rfl)) | ((with_reducible show PE _ (.Dict ..) _);exact @RC _ _ _ _ _ (@HI _ _ _ _ _ _ _ _ _ (by walk_at "e") (by walk_at "e") (@HI _ _ _ _ _ _ _ _ _ (by walk_at "e") (by walk_at "e") (@RB _ _))) rfl rfl (by simp) (by decide)))
theorem PH {f:Addr}{fd:FuncData}(F:Fun K "_law_after" "_law_after" BU f fd):FnOk P w K mg base CX0 1 f fd ["_law_deed_here", "_law_some", "_law_spare"] (spD K 3 CH):=by
 refine fnD F J9 fun cdv A outer s H E hr=>?_
 have hu:=hr.units
 have hu1:=zQ (a5Q (show 1<=64 by decide) _) hu
 have nd:=J9.nd
 have n0:=MN
 have n1:=MP
 refine⟨_,by walk_at "b2", ?_⟩
 clear nd n0 n1
 rintro xs M hl ⟨D,so,sp,rfl,hr,hno,ha⟩
 have hs26:so.length<=26:=by have:=hno.2.2;rw[yY] at this;omega
 walk_at "r"
 cases D with
 | put x pl k=>
   have hx:AS x:=hr.1 x (by simp[Deed.names])
   rw[show Deed.d (Deed.put x pl k) = .tuple [.str (a0Q "put"),.str x,.int pl,.int k] from rfl]
   refine AC (d:=.str (a0Q "put")) (AD (j:=0) rfl) ?_
   walk_at "r"
   refine GK (t:=true) (by decide +kernel) ?_
   walk_at "r"
   refine BA ?_
   walk_at "r"
   refine AC (d:=.str x) (AD (j:=1) rfl) ?_
   walk_at "r"
   refine HM (by rw[zX];exact zN (b3V hs26 1) (by decide)) ?_
   walk_at "r"
   refine CY ?_
   rw[show CT (sp.map a0K) (some 1) none=(sp.drop 1).map .str from(HQ _ 1).trans (by rw[a9V])]
   walk_at "r"
   refine⟨M,zT M,fun D' so' sp' e=>?_⟩
   obtain⟨rfl,rfl,rfl⟩:=GJ (D:=Deed.put x pl k) e
   exact⟨by rw[show(.str x:PyData)=a0K x from rfl];simp[AY,DU,C6,Deed.made],rfl⟩
 | take x=>
   have hx:AS x:=hr.1 x (by simp[Deed.names])
   rw[show Deed.d (Deed.take x) = .tuple [.str (a0Q "take"),.str x] from rfl]
   refine AC (d:=.str (a0Q "take")) (AD (j:=0) rfl) ?_
   walk_at "r"
   refine GK (t:=false) (by decide +kernel) ?_
   walk_at "r"
   refine AC (d:=.str (a0Q "take")) (AD (j:=0) rfl) ?_
   walk_at "r"
   refine BA ?_
   walk_at "r"
   refine D6 (ys:=["name", "split"]) ?_
   rw[show decide (a0Q "take" ∈ [a0Q "name", "split"])=false from by decide +kernel]
   walk_at "r"
   refine K5 ?_
   refine FK fun q hq=>?_
   refine BI ?_
   walk_at "r"
   refine AC (d:=.str x) (AD (j:=1) rfl) ?_
   walk_at "r"
   refine BI ?_
   walk_at "r"
   refine AC (d:=.str x) rfl ?_
   walk_at "r"
   refine IK ?_
   refine⟨zU,yD rfl,by simp only[zI,a5Z];decide +kernel,?_⟩
   rw[yG hq]
   walk_at "r"
   refine AC (d:=.str (a0Q "take")) (AD (j:=0) rfl) ?_
   walk_at "r"
   rw[show(GO (a0Q "take") (List.map (fun k=>(a0K k.1,k.2)) [(a0Q "take", .str x),(a0Q "join", .str x)])).getD (.str (a0Q "")) = .str x from rfl]
   refine AF (AN 0) (by simp[BE]) ?_
   refine B3 ?_
   walk_at "r"
   refine⟨by rw[zX];exact zQ hs26 (by decide),fun d=>!a0Z d (.str x),id,?_,?_⟩
   · intro d hd M'
     obtain⟨z,hz,rfl⟩:=zL.mp hd
     have hzn:AS z:=hno.1 z (by simp[hz])
     walk_at "r"
     refine⟨rfl,?_⟩
     walk_at "r"
     refine AU (AM hzn) (AM hx) ?_
     rw[if_pos rfl]
     walk_at "r"
     refine⟨rfl,rfl,fun _=>?_⟩
     walk_at "r"
     exact⟨rfl,rfl⟩
   rw[CZ]
   walk_at "r"
   refine⟨M,zT M,fun D' so' sp' e=>?_⟩
   obtain⟨rfl,rfl,rfl⟩:=GJ (D:=Deed.take x) e
   exact⟨rfl,rfl⟩
 | move x pl=>
   have hx:AS x:=hr.1 x (by simp[Deed.names])
   rw[show Deed.d (Deed.move x pl) = .tuple [.str (a0Q "move"),.str x,.int pl] from rfl]
   refine AC (d:=.str (a0Q "move")) (AD (j:=0) rfl) ?_
   walk_at "r"
   refine GK (t:=false) (by decide +kernel) ?_
   walk_at "r"
   refine AC (d:=.str (a0Q "move")) (AD (j:=0) rfl) ?_
   walk_at "r"
   refine BA ?_
   walk_at "r"
   refine D6 (ys:=["name", "split"]) ?_
   rw[show decide (a0Q "move" ∈ [a0Q "name", "split"])=false from by decide +kernel]
   walk_at "r"
   refine K5 ?_
   refine FK fun q hq=>?_
   refine BI ?_
   walk_at "r"
   refine AC (d:=.str x) (AD (j:=1) rfl) ?_
   walk_at "r"
   refine BI ?_
   walk_at "r"
   refine AC (d:=.int pl) rfl ?_
   walk_at "r"
   refine IK ?_
   refine⟨zU,yD rfl,by simp only[zI,a5Z];decide +kernel,?_⟩
   rw[yG hq]
   walk_at "r"
   refine AC (d:=.str (a0Q "move")) (AD (j:=0) rfl) ?_
   walk_at "r"
   rw[show(GO (a0Q "move") (List.map (fun k=>(a0K k.1,k.2)) [(a0Q "take", .str x),(a0Q "join", .int pl)])).getD (.str (a0Q "")) = .str (a0Q "") from rfl]
   refine AF (AN 0) (by simp[BE]) ?_
   refine B3 ?_
   walk_at "r"
   refine⟨by rw[zX];exact zQ hs26 (by decide),fun d=>!a0Z d (.str (a0Q "")),id,?_,?_⟩
   · intro d hd M'
     obtain⟨z,hz,rfl⟩:=zL.mp hd
     have hzn:AS z:=hno.1 z (by simp[hz])
     walk_at "r"
     refine⟨rfl,?_⟩
     walk_at "r"
     refine AU (AM hzn) (by decide +kernel) ?_
     rw[if_pos rfl]
     walk_at "r"
     refine⟨rfl,rfl,fun _=>?_⟩
     walk_at "r"
     exact⟨rfl,rfl⟩
   rw[CZ]
   walk_at "r"
   refine⟨M,zT M,fun D' so' sp' e=>?_⟩
   obtain⟨rfl,rfl,rfl⟩:=GJ (D:=Deed.move x pl) e
   exact⟨by rw[XV fun z hz=>hno.1 z (by simp[hz])];rfl,rfl⟩
 | count x k=>
   have hx:AS x:=hr.1 x (by simp[Deed.names])
   rw[show Deed.d (Deed.count x k) = .tuple [.str (a0Q "count"),.str x,.int k] from rfl]
   refine AC (d:=.str (a0Q "count")) (AD (j:=0) rfl) ?_
   walk_at "r"
   refine GK (t:=false) (by decide +kernel) ?_
   walk_at "r"
   refine AC (d:=.str (a0Q "count")) (AD (j:=0) rfl) ?_
   walk_at "r"
   refine BA ?_
   walk_at "r"
   refine D6 (ys:=["name", "split"]) ?_
   rw[show decide (a0Q "count" ∈ [a0Q "name", "split"])=false from by decide +kernel]
   walk_at "r"
   refine K5 ?_
   refine FK fun q hq=>?_
   refine BI ?_
   walk_at "r"
   refine AC (d:=.str x) (AD (j:=1) rfl) ?_
   walk_at "r"
   refine BI ?_
   walk_at "r"
   refine AC (d:=.int k) rfl ?_
   walk_at "r"
   refine IK ?_
   refine⟨zU,yD rfl,by simp only[zI,a5Z];decide +kernel,?_⟩
   rw[yG hq]
   walk_at "r"
   refine AC (d:=.str (a0Q "count")) (AD (j:=0) rfl) ?_
   walk_at "r"
   rw[show(GO (a0Q "count") (List.map (fun k=>(a0K k.1,k.2)) [(a0Q "take", .str x),(a0Q "join", .int k)])).getD (.str (a0Q "")) = .str (a0Q "") from rfl]
   refine AF (AN 0) (by simp[BE]) ?_
   refine B3 ?_
   walk_at "r"
   refine⟨by rw[zX];exact zQ hs26 (by decide),fun d=>!a0Z d (.str (a0Q "")),id,?_,?_⟩
   · intro d hd M'
     obtain⟨z,hz,rfl⟩:=zL.mp hd
     have hzn:AS z:=hno.1 z (by simp[hz])
     walk_at "r"
     refine⟨rfl,?_⟩
     walk_at "r"
     refine AU (AM hzn) (by decide +kernel) ?_
     rw[if_pos rfl]
     walk_at "r"
     refine⟨rfl,rfl,fun _=>?_⟩
     walk_at "r"
     exact⟨rfl,rfl⟩
   rw[CZ]
   walk_at "r"
   refine⟨M,zT M,fun D' so' sp' e=>?_⟩
   obtain⟨rfl,rfl,rfl⟩:=GJ (D:=Deed.count x k) e
   exact⟨by rw[XV fun z hz=>hno.1 z (by simp[hz])];rfl,rfl⟩
 | name x y=>
   have hx:AS x:=hr.1 x (by simp[Deed.names])
   have hy:AS y:=hr.1 y (by simp[Deed.names])
   rw[show Deed.d (Deed.name x y) = .tuple [.str (a0Q "name"),.str x,.str y] from rfl]
   refine AC (d:=.str (a0Q "name")) (AD (j:=0) rfl) ?_
   walk_at "r"
   refine GK (t:=false) (by decide +kernel) ?_
   walk_at "r"
   refine AC (d:=.str (a0Q "name")) (AD (j:=0) rfl) ?_
   walk_at "r"
   refine BA ?_
   walk_at "r"
   refine D6 (ys:=["name", "split"]) ?_
   rw[show decide (a0Q "name" ∈ [a0Q "name", "split"])=true from by decide +kernel]
   walk_at "r"
   refine AF (AN 0) (by simp[DY]) ?_
   refine B3 ?_
   walk_at "r"
   refine⟨by rw[zX];exact zQ hs26 (by decide),fun d=>!a0Z d (.str x),id,?_,?_⟩
   · intro d hd M'
     obtain⟨z,hz,rfl⟩:=zL.mp hd
     have hzn:AS z:=hno.1 z (by simp[hz])
     walk_at "r"
     refine⟨rfl,?_⟩
     walk_at "r"
     refine AC (d:=.str x) (AD (j:=1) rfl) ?_
     refine AU (AM hzn) (AM hx) ?_
     rw[if_pos rfl]
     cases hq:a0Z (.str z) (.str x) with
     | false=>
       walk_at "r"
       refine⟨rfl,by show _ = !a0Z (.str z) (.str x);rw[hq];rfl,fun _=>?_⟩
       walk_at "r"
       exact⟨rfl,rfl⟩
     | true=>
       walk_at "r"
       refine AC (d:=.str (a0Q "name")) (AD (j:=0) rfl) ?_
       walk_at "r"
       refine GK (t:=false) (by decide +kernel) ?_
       walk_at "r"
       refine⟨rfl,by show _ = !a0Z (.str z) (.str x);rw[hq];rfl,fun h=>?_⟩
       have h:(!a0Z (.str z) (.str x))=true:=h
       rw[hq] at h;cases h
   rw[CZ]
   walk_at "wkd"
   refine AC (d:=.str y) (AD (j:=2) rfl) ?_
   walk_at "r"
   refine HM (by rw[zX];exact zN (b3V (zN (yJ _ _) hs26) 1) (by decide)) ?_
   walk_at "r"
   refine CY ?_
   rw[show CT (sp.map a0K) (some 1) none=(sp.drop 1).map .str from(HQ _ 1).trans (by rw[a9V])]
   walk_at "r"
   refine⟨M,zT M,fun D' so' sp' e=>?_⟩
   obtain⟨rfl,rfl,rfl⟩:=GJ (D:=Deed.name x y) e
   exact⟨by simp[AY,DU,C6,Deed.made],rfl⟩
 | split x y pl k=>
   have hx:AS x:=hr.1 x (by simp[Deed.names])
   have hy:AS y:=hr.1 y (by simp[Deed.names])
   rw[show Deed.d (Deed.split x y pl k) = .tuple [.str (a0Q "split"),.str x,.str y,.int pl,.int k] from rfl]
   refine AC (d:=.str (a0Q "split")) (AD (j:=0) rfl) ?_
   walk_at "r"
   refine GK (t:=false) (by decide +kernel) ?_
   walk_at "r"
   refine AC (d:=.str (a0Q "split")) (AD (j:=0) rfl) ?_
   walk_at "r"
   refine BA ?_
   walk_at "r"
   refine D6 (ys:=["name", "split"]) ?_
   rw[show decide (a0Q "split" ∈ [a0Q "name", "split"])=true from by decide +kernel]
   walk_at "r"
   refine AF (AN 0) (by simp[DY]) ?_
   refine B3 ?_
   walk_at "r"
   refine⟨by rw[zX];exact zQ hs26 (by decide),fun _=>true,id,?_,?_⟩
   · intro d hd M'
     obtain⟨z,hz,rfl⟩:=zL.mp hd
     have hzn:AS z:=hno.1 z (by simp[hz])
     walk_at "r"
     refine⟨rfl,?_⟩
     walk_at "r"
     refine AC (d:=.str x) (AD (j:=1) rfl) ?_
     refine AU (AM hzn) (AM hx) ?_
     rw[if_pos rfl]
     cases hq:a0Z (.str z) (.str x) with
     | false=>
       walk_at "r"
       refine⟨rfl,rfl,fun _=>?_⟩
       walk_at "r"
       exact⟨rfl,rfl⟩
     | true=>
       walk_at "r"
       refine AC (d:=.str (a0Q "split")) (AD (j:=0) rfl) ?_
       walk_at "r"
       refine GK (t:=true) (by decide +kernel) ?_
       walk_at "r"
       refine⟨rfl,rfl,fun _=>?_⟩
       walk_at "r"
       exact⟨rfl,rfl⟩
   rw[S5,a9X]
   walk_at "wkd"
   refine AC (d:=.str y) (AD (j:=2) rfl) ?_
   walk_at "r"
   refine HM (by rw[zX];exact zN (b3V (hs26) 1) (by decide)) ?_
   walk_at "r"
   refine CY ?_
   rw[show CT (sp.map a0K) (some 1) none=(sp.drop 1).map .str from(HQ _ 1).trans (by rw[a9V])]
   walk_at "r"
   refine⟨M,zT M,fun D' so' sp' e=>?_⟩
   obtain⟨rfl,rfl,rfl⟩:=GJ (D:=Deed.split x y pl k) e
   exact⟨by simp[AY,DU,C6,Deed.made],rfl⟩
 | join x y=>
   have hx:AS x:=hr.1 x (by simp[Deed.names])
   have hy:AS y:=hr.1 y (by simp[Deed.names])
   rw[show Deed.d (Deed.join x y) = .tuple [.str (a0Q "join"),.str x,.str y] from rfl]
   refine AC (d:=.str (a0Q "join")) (AD (j:=0) rfl) ?_
   walk_at "r"
   refine GK (t:=false) (by decide +kernel) ?_
   walk_at "r"
   refine AC (d:=.str (a0Q "join")) (AD (j:=0) rfl) ?_
   walk_at "r"
   refine BA ?_
   walk_at "r"
   refine D6 (ys:=["name", "split"]) ?_
   rw[show decide (a0Q "join" ∈ [a0Q "name", "split"])=false from by decide +kernel]
   walk_at "r"
   refine K5 ?_
   refine FK fun q hq=>?_
   refine BI ?_
   walk_at "r"
   refine AC (d:=.str x) (AD (j:=1) rfl) ?_
   walk_at "r"
   refine BI ?_
   walk_at "r"
   refine AC (d:=.str y) rfl ?_
   walk_at "r"
   refine IK ?_
   refine⟨zU,yD rfl,by simp only[zI,a5Z];decide +kernel,?_⟩
   rw[yG hq]
   walk_at "r"
   refine AC (d:=.str (a0Q "join")) (AD (j:=0) rfl) ?_
   walk_at "r"
   rw[show(GO (a0Q "join") (List.map (fun k=>(a0K k.1,k.2)) [(a0Q "take", .str x),(a0Q "join", .str y)])).getD (.str (a0Q "")) = .str y from rfl]
   refine AF (AN 0) (by simp[BE]) ?_
   refine B3 ?_
   walk_at "r"
   refine⟨by rw[zX];exact zQ hs26 (by decide),fun d=>!a0Z d (.str y),id,?_,?_⟩
   · intro d hd M'
     obtain⟨z,hz,rfl⟩:=zL.mp hd
     have hzn:AS z:=hno.1 z (by simp[hz])
     walk_at "r"
     refine⟨rfl,?_⟩
     walk_at "r"
     refine AU (AM hzn) (AM hy) ?_
     rw[if_pos rfl]
     walk_at "r"
     refine⟨rfl,rfl,fun _=>?_⟩
     walk_at "r"
     exact⟨rfl,rfl⟩
   rw[CZ]
   walk_at "r"
   refine⟨M,zT M,fun D' so' sp' e=>?_⟩
   obtain⟨rfl,rfl,rfl⟩:=GJ (D:=Deed.join x y) e
   exact⟨rfl,rfl⟩
end
def JA:List Str:=["_law_pack", "_law_names_here", "_law_amount", "_law_some"]
def GW:List Str:=["_law_k", "_law_names_here", "_law_pack"]
def GX:List (Option Nat):=[none,some 1,some 0]
theorem MQ:GW.Nodup:=by decide +kernel
theorem JB:FnScope JA ["_law_pack", "_law_names_here", "_law_amount"] (AA CO):=⟨rfl,rfl,rfl,by decide +kernel,rfl,by decide +kernel,by decide +kernel⟩
section
local macro_rules | `(tactic| walk_at "cs")=>`(tactic| first | exact @DJ _ _ GW GX (AA CO) JA (by decide +kernel) (by decide +kernel) rfl rfl)
theorem PJ {f:Addr}{fd:FuncData}(F:Fun K "_law_start" "_law_start" CO f fd) (n_range:mg "range"=none) (n_sorted:mg "sorted"=none) (n_tuple:mg "tuple"=none) (h__law_take:Has P w K mg base "_law_take" 1 ["_law_pack", "_law_size"] B7):FnOk P w K mg base CX0 2 f fd ["_law_pack", "_law_names_here", "_law_amount"] (spD K 3 CI):=by
 refine fnD F JB fun cdv A outer s H E hr=>?_
 have hu:=hr.units
 have nd:=JB.nd
 have n0:=MQ
 refine⟨_,by walk_at "b2", ?_⟩
 clear nd n0
 rintro xs M hl ⟨p,o,ys,n,rfl,m,ho,hy,hn⟩
 have h26:n<=26:=zN hn hy.2.2
 walk_at "dl";walk_at "dl"
 refine RJ (AN 0) (by simp[GX]) ?_
 refine G8 ?_
 walk_at "r"
 refine⟨by omega,by omega,?_⟩
 have hnn:(CD 0 (n:Int).toNat).length=n:=by simp[CD]
 refine⟨by rw[hnn];exact zQ h26 (by decide),fun A hA=>?_⟩
 have hpA:p≠A:=by rintro rfl;rw[m] at hA;cases hA
 refine⟨fun k acc M'=>∃(w:List Th) (o2:MO),acc=w.map thD/\w.length=k/\w.map (·.1)=ys.take k/\(∀t∈w,0<=t.2.1/\t.2.1<=999)/\BJ o2/\M'=(M.put p o2).put A (.l acc),⟨[],o,rfl,rfl,by simp,by simp,ho,by rw[Own.put_self m]⟩,?_,?_,?_⟩
 · rintro k acc M' ⟨w,o2,rfl,hk,-,-,-,rfl⟩
   exact⟨zU,by simp[hk]⟩
 · rintro k d acc M' hd ⟨w,o2,rfl,hk,hw,hb,ho2,rfl⟩
   have hkn:k < n:=by rw[← hnn];exact(yT.mp hd).1
   have ed:d = .int k:=by
     unfold CD at hd
     rw[zF,yA (by omega)] at hd
     simp at hd;exact hd.symm
   subst ed
   have hky:k < ys.length:=by omega
   have hg:(ys.map a0K)[k]?=some (.str ys[k]):=by rw[zF,zV hky];rfl
   walk_at "r"
   refine BO (AD hg) ?_
   walk_at "r"
   refine AX (by rw[yH hpA];exact zU) ho2 (by decide) (by decide) fun v o3 h0 h1 ho3=>?_
   walk_at "r"
   refine AX zU ho3 (by decide) (by decide) fun v2 o4 _ _ ho4=>?_
   walk_at "r"
   refine⟨by rw[yI,yH hpA.symm];exact zU,w++[(ys[k],v,v2 - 20)],o4,by simp[thD],by simp[hk],by rw[xI,hw,a4Z,zV hky];rfl,?_,ho4,?_⟩
   · intro t ht
     rcases yW.mp ht with h | h
     · exact hb t h
     · have:t=(ys[k],v,v2 - 20):=by simpa using h
       subst this;exact⟨h0,by show v<=999;omega⟩
   · rw[yI];exact cF hpA
 · rintro acc M' ⟨w,o2,rfl,hk,hw,hb,ho2,rfl⟩
   rw[hnn] at hk hw
   rw[yG (by rw[yH hpA.symm];exact hA)]
   walk_at "r"
   have ndw:(w.map (·.1)).Nodup:=by rw[hw];exact hy.2.1.sublist (List.take_sublist _ _)
   rw[← dL]
   refine cX (by rw[zD];exact ndw) (by rw[zX];omega) fun ts' hp hlt=>?_
   obtain⟨u1,u2,u3⟩:=dM hp
   rw[u2]
   walk_at "r"
   refine ER ?_
   refine⟨M.put p o2,zT _,fun p' ys' n' e=>?_⟩
   simp only[List.cons.injEq,DS.loc.injEq,DS.d.injEq,PyData.int.injEq,Int.ofNat_inj,and_true] at e
   obtain⟨rfl,e,rfl⟩:=e
   have e:=HV e
   subst e
   refine⟨ts'.map unB,o2,rfl,⟨by rw[u3];exact WF hlt,fun t ht=>?_⟩,by rw[← hw];exact u1.map _,ho2,rfl⟩
   have ht:=u1.mem_iff.mp ht
   refine⟨hy.1 _ ?_,hb t ht⟩
   have:t.1∈ys.take n:=by rw[← hw];exact zL.mpr ⟨t,ht,rfl⟩
   exact a5V this
end
def SW:List Str:=["_law_head", "_law_cells", "_law_pack", "_law_spare", "_law_amount", "_law_start_here", "_law_some", "_law_lines", "_law_cell", "_law_digits", "_law_hand", "_law_deed_here"]
theorem KP:FnScope SW ["_law_head", "_law_cells"] (AA F0):=⟨rfl,rfl,rfl,by decide +kernel,rfl,by decide +kernel,by decide +kernel⟩
section
local macro_rules | `(tactic| walk_at "x")=>`(tactic| first | ((with_reducible show PS _ (.Assign [.Tuple ..] ..) _);exact @VG _ _ _ _ _ _ (by walk_at "e") (by walk_at "g") (by rfl) (by rfl) (by rfl)) | ((with_reducible show PG _ (.Tuple ..) _);exact @cR _ K _ _ _ _ (2) rfl rfl (by walk_at "j") (by rfl) (by rfl)))
theorem SX {f:Addr}{fd:FuncData}(F:Fun K "_law_book" "_law_book" F0 f fd) (n_tuple:mg "tuple"=none) (h__law_after:Has P w K mg base "_law_after" 1 ["_law_deed_here", "_law_some", "_law_spare"] CH) (h__law_deed:Has P w K mg base "_law_deed" 2 ["_law_pack", "_law_some", "_law_spare"] DD) (h__law_mixed:Has P w K mg base "_law_mixed" 1 ["_law_cell"] BQ) (h__law_names:Has P w K mg base "_law_names" 2 ["_law_pack", "_law_amount"] CG) (h__law_start:Has P w K mg base "_law_start" 2 ["_law_pack", "_law_names_here", "_law_amount"] CI) (h__law_take:Has P w K mg base "_law_take" 1 ["_law_pack", "_law_size"] B7):FnOk P w K mg base CX0 3 f fd ["_law_head", "_law_cells"] (spD K 2 IC):=by
 refine fnD F KP fun cdv A outer s H E hr=>?_
 have hu:=hr.units
 have nd:=KP.nd
 refine⟨_,by walk_at "b2", ?_⟩
 clear nd
 rintro xs M hl ⟨h,cs,rfl,hh,hcs,hcl⟩
 walk_at "r"
 refine II ?_
 walk_at "r"
 refine JO hh fun v=>?_
 walk_at "r"
 intro p hp
 walk_at "r"
 refine WC zU ⟨v,rfl⟩ (by decide) (by decide) fun ys o1 hyl hy hyb hyn ho1=>?_
 rw[yI]
 walk_at "r"
 refine AX zU ho1 (by decide) (by decide) fun va o2 a0 a1 ho2=>?_
 rw[yI]
 obtain⟨n,rfl⟩:∃n:Nat,va=(n:Int):=⟨va.toNat,by omega⟩
 have hyok:namesOK ys:=⟨hy,hyn,by omega⟩
 walk_at "r"
 refine WE zU ho2 hyok (by omega) fun w0 o3 hw0 _ ho3=>?_
 rw[yI]
 walk_at "r"
 refine CY ?_
 rw[nB,← List.map_take]
 walk_at "r"
 refine CY ?_
 rw[HQ,← a9V]
 walk_at "r"
 refine II ?_
 walk_at "r"
 intro A hA
 have hpA:p≠A:=by rintro rfl;rw[zU] at hA;cases hA
 have hMA:M A=none:=by rw[yH hpA.symm] at hA;exact hA
 walk_at "wks"
 refine DQ (fun ρ1 M1=>∃(ls:List (Str×Deed)) (so sp:List Str) (x1 x2 x3 x4:Option DS),M.Sub M1/\M1 A=some (.l (ls.map BY))/\goodB w0 ls/\ls.length<=cs.length/\ρ1=[some (.d (.int h)),some (.d (.list (cs.map .int))),some (.loc p),some (.d (AY sp)),some (.d (.int n)),some (.d (wD w0)),some (.d (AY so)),some (.loc A),x1,x2,x3,x4]) ?_ ?_
 · refine G9 ?_
   refine B3 ?_
   walk_at "r"
   refine⟨fun k ρ1 M1=>k<=cs.length/\∃(ls:List (Str×Deed)) (so sp:List Str) (x1 x2 x3 x4:Option DS),M.Sub M1/\M1 A=some (.l (ls.map BY))/\(LB (ys.take n) (ys.drop n) (ls.map (·.2))/\Y0 (ys.take n) (ys.drop n) (ls.map (·.2))=(so,sp))/\(∀l∈ls,AS l.1)/\ls.length<=k/\namesOK (so++sp)/\ρ1=[some (.d (.int h)),some (.d (.list (cs.map .int))),some (.loc p),some (.d (AY sp)),some (.d (.int n)),some (.d (wD w0)),some (.d (AY so)),some (.loc A),x1,x2,x3,x4],⟨xT _,[],ys.take n,ys.drop n,_,_,_,_,?_,zU,⟨trivial,rfl⟩,by simp,by simp,by rw[a9Q];exact hyok,rfl⟩,?_,?_⟩
   · exact((zT M).put hp).put hMA
   · rintro k d ρ1 M1 hd ⟨hkc,ls,so,sp,x1,x2,x3,x4,hsub,hMa,hb,hnl,hlk,hno,rfl⟩
     have hkl:k < cs.length:=by have:=(yT.mp hd).1;simpa using this
     obtain⟨c,hc,rfl⟩:=zL.mp (yN hd)
     walk_at "r"
     refine II ?_
     walk_at "r"
     refine JO (hcs c hc) fun v2=>?_
     walk_at "r"
     intro q hq
     have hqA:q≠A:=by rintro rfl;rw[hMa] at hq;cases hq
     have hMq:M q=none:=by
       cases e:M q with
       | none=>rfl
       | some ob=>rw[hsub q ob e] at hq;cases hq
     walk_at "r"
     refine BA ?_
     walk_at "r"
     refine AX zU ⟨v2,rfl⟩ (by decide) (by decide) fun v3 o4 b0 b1 ho4=>?_
     rw[yI]
     obtain⟨hd',ehd,mhd⟩:=N1 (ys:=[a0Q "me", "you", "abcdefgh"]) b0 b1
     refine BO (d:=.str hd') ehd ?_
     have hs1:zH (AY so)=true:=CJ fun z hz=>hno.1 z (by simp[hz])
     have hs2:zH (AY sp)=true:=CJ fun z hz=>hno.1 z (by simp[hz])
     walk_at "wkd"
     refine AU hs1 rfl ?_
     rw[if_pos rfl,BK]
     have keep:∀ob:MO,M.Sub (M1.put q ob):=fun ob b o e=>by
       rw[yH (by rintro rfl;rw[hMq] at e;cases e)];exact hsub b o e
     cases hso:so.isEmpty with
     | false=>
       have hne:so≠[]∨sp≠[]:=.inl fun q=>by rw[q] at hso;cases hso
       walk_at "r"
       · refine O4 zU ho4 hno hne fun D o5 hr ha hm ho5=>?_
         rw[yI]
         walk_at "r"
         refine RT ?_
         walk_at "r"
         refine O5 hr hno ha ?_
         walk_at "r"
         refine Q2 ?_
         walk_at "dl"
         refine⟨K0 (ds:=ls.map BY) (by rw[yH hqA.symm];exact hMa),?_⟩
         walk_at "r"
         refine FJ (ds:=ls.map BY) (by rw[yH hqA.symm];exact hMa) (by rw[zX];exact zQ (show _<=50 by omega) (by decide)) ?_
         refine⟨by omega,ls++[(hd',D)],DU so D,C6 sp D,_,_,_,_,?_,?_,?_,?_,?_,hno.sub (L9 hm),rfl⟩
         · intro b o e
           rw[yH (by rintro rfl;rw[hMA] at e;cases e)]
           exact keep _ b o e
         · rw[xI];exact zU
         · rw[xI];exact JP hb.1 hb.2 ha hm hr
         · intro l hl'
           rcases yW.mp hl' with q1 | q1
           · exact hnl l q1
           · have:l=(hd',D):=by simpa using q1
             subst this;exact UI _ mhd
         · rw[yY];simp;omega
     | true=>
       walk_at "wkd"
       refine AU hs2 rfl ?_
       rw[if_pos rfl,BK]
       cases hsp:sp.isEmpty with
       | false=>
         have hne:so≠[]∨sp≠[]:=.inr fun q=>by rw[q] at hsp;cases hsp
         walk_at "r"
         · refine O4 zU ho4 hno hne fun D o5 hr ha hm ho5=>?_
           rw[yI]
           walk_at "r"
           refine RT ?_
           walk_at "r"
           refine O5 hr hno ha ?_
           walk_at "r"
           refine Q2 ?_
           walk_at "dl"
           refine⟨K0 (ds:=ls.map BY) (by rw[yH hqA.symm];exact hMa),?_⟩
           walk_at "r"
           refine FJ (ds:=ls.map BY) (by rw[yH hqA.symm];exact hMa) (by rw[zX];exact zQ (show _<=50 by omega) (by decide)) ?_
           refine⟨by omega,ls++[(hd',D)],DU so D,C6 sp D,_,_,_,_,?_,?_,?_,?_,?_,hno.sub (L9 hm),rfl⟩
           · intro b o e
             rw[yH (by rintro rfl;rw[hMA] at e;cases e)]
             exact keep _ b o e
           · rw[xI];exact zU
           · rw[xI];exact JP hb.1 hb.2 ha hm hr
           · intro l hl'
             rcases yW.mp hl' with q1 | q1
             · exact hnl l q1
             · have:l=(hd',D):=by simpa using q1
               subst this;exact UI _ mhd
           · rw[yY];simp;omega
       | true=>
         walk_at "r"
         exact⟨by omega,ls,so,sp,_,_,_,_,keep _,by rw[yH hqA.symm];exact hMa,hb,hnl,by omega,hno,rfl⟩
   · rintro ρ1 M1 ⟨hkc,ls,so,sp,x1,x2,x3,x4,hsub,hMa,hb,hnl,hlk,hno,rfl⟩
     rw[zX] at hlk
     have hfa:=QF _ _ _ hb.1 (by rw[a9Q];exact hyok.2.1)
     exact⟨ls,so,sp,x1,x2,x3,x4,hsub,hMa,⟨hfa.2,fun l hl=>OC hb.1 _ (zL.mpr ⟨l,hl,rfl⟩),by omega,hnl⟩,hlk,rfl⟩
 · rintro ρ1 M1 ⟨ls,so,sp,x1,x2,x3,x4,hsub,hMa,hreal,hlc,rfl⟩
   walk_at "r"
   refine UH hMa ?_
   walk_at "r"
   exact⟨M,hsub,rfl,w0,ls,rfl,hreal,fun t ht=>(hw0.2 t ht).1⟩
end
def SY:List Str:=["_law_deed_here"]
theorem KQ:FnScope SY ["_law_deed_here"] (AA F3):=⟨rfl,rfl,rfl,by decide +kernel,rfl,by decide +kernel,by decide +kernel⟩
theorem SZ {f:Addr}{fd:FuncData}(F:Fun K "_law_must" "_law_must" F3 f fd):FnOk P w K mg base CX0 1 f fd ["_law_deed_here"] (spD K 1 CA):=by
 refine fnD F KQ fun cdv A outer s H E hr=>?_
 have hu:=hr.units
 have nd:=KQ.nd
 refine⟨_,by walk_at "b2", ?_⟩
 clear nd
 rintro xs M hl ⟨D,rfl,hr⟩
 have hap:=hr.2.1
 have fin:∀{y:DS}{ms:List Str},D.must=ms->y = .d (AY ms)->∃M2:Own,M2.Sub M/\CA.post [.d D.d] M y M2:=fun e1 e2=>⟨M,zT M,fun D' e=>by
   simp only[List.cons.injEq,DS.d.injEq,and_true] at e
   obtain rfl:=EF e
   rw[e1]
   exact⟨e2,rfl⟩⟩
 rw[D.d_eq] at *
 walk_at "r"
 refine AC (d:=.str D.word) (AD (j:=0) rfl) ?_
 walk_at "r"
 refine AU D.word_ok (by decide +kernel) ?_
 rw[if_neg nft,BF]
 cases h1:(D.word==a0Q "put") with
 | true=>
   walk_at "r"
   refine BA ?_
   walk_at "r"
   cases D <;> first | (exfalso;simp only[Deed.word] at h1;revert h1;decide +kernel) | skip
   exact fin (ms:=[]) (by simp[Deed.must,Deed.names,Deed.made,Deed.fst,Deed.rest]) rfl
 | false=>
   walk_at "r"
   refine AC (d:=.str D.word) (AD (j:=0) rfl) ?_
   walk_at "r"
   refine AU D.word_ok (by decide +kernel) ?_
   rw[if_neg nft,BF]
   cases h2:(D.word==a0Q "join") with
   | true=>
     walk_at "r"
     refine BA ?_
     walk_at "r"
     cases D <;> first | (exfalso;simp only[Deed.word] at h2;revert h2;decide +kernel) | skip
     refine AC (d:=_) rfl ?_
     walk_at "r"
     refine AC (d:=_) rfl ?_
     walk_at "r"
     exact fin (ms:=[_,_]) (by simp[Deed.must,Deed.names,Deed.made,Deed.fst,Deed.rest]) rfl
   | false=>
     walk_at "r"
     refine BA ?_
     walk_at "r"
     cases D <;> first | (exfalso;simp only[Deed.word] at h1;revert h1;decide +kernel) | (exfalso;simp only[Deed.word] at h2;revert h2;decide +kernel) | skip
     all_goals
       refine AC (d:=_) rfl ?_
       walk_at "r"
       exact fin (ms:=[_]) (by first | (simp[Deed.must,Deed.names,Deed.made,Deed.fst,Deed.rest];done) | (simp[Deed.must,Deed.names,Deed.made,Deed.fst,Deed.rest,b1Q hap];done)) rfl
def T0:List Str:=["_law_deed_here"]
theorem KR:FnScope T0 ["_law_deed_here"] (AA F4):=⟨rfl,rfl,rfl,by decide +kernel,rfl,by decide +kernel,by decide +kernel⟩
section
local macro_rules | `(tactic| walk_at "x")=>`(tactic| first | ((with_reducible show PT _ (.Compare _ [.In] ..) _);exact @BN _ _ _ _ _ _ _ _ (@kIn _ K rfl) (by walk_at "e") (by walk_at "e") (by with_unfolding_all rfl)))
theorem T2 {f:Addr}{fd:FuncData}(F:Fun K "_law_made" "_law_made" F4 f fd):FnOk P w K mg base CX0 1 f fd ["_law_deed_here"] (spD K 1 FR):=by
 refine fnD F KR fun cdv A outer s H E hr=>?_
 have hu:=hr.units
 have nd:=KR.nd
 refine⟨_,by walk_at "b2", ?_⟩
 clear nd
 rintro xs M hl ⟨D,rfl,hr⟩
 have fin:∀{y:DS},y = .d (Z3 D.made)->∃M2:Own,M2.Sub M/\FR.post [.d D.d] M y M2:=fun e2=>⟨M,zT M,fun D' e=>by
   simp only[List.cons.injEq,DS.d.injEq,and_true] at e
   obtain rfl:=EF e
   exact⟨e2,rfl⟩⟩
 rw[D.d_eq] at *
 walk_at "r"
 refine AC (d:=.str D.word) (AD (j:=0) rfl) ?_
 walk_at "r"
 refine AU D.word_ok (by decide +kernel) ?_
 rw[if_neg nft,BF]
 cases h1:(D.word==a0Q "put") with
 | true=>
   walk_at "r"
   refine AC (d:=.str D.fst) (AD (j:=1) rfl) ?_
   cases D <;> first | (exfalso;simp only[Deed.word] at h1;revert h1;decide +kernel) | skip
   exact fin rfl
 | false=>
   walk_at "r"
   refine AC (d:=.str D.word) (AD (j:=0) rfl) ?_
   walk_at "wkd"
   refine D6 (ys:=[a0Q "name", a0Q "split"]) ?_
   rw[show decide (D.word∈[a0Q "name", a0Q "split"])=(D.word==a0Q "name" || D.word==a0Q "split") by rw[a2W];simp]
   cases h2:(D.word==a0Q "name" || D.word==a0Q "split") with
   | true=>
     walk_at "r"
     cases D <;> first | (exfalso;simp only[Deed.word] at h2;revert h2;decide +kernel) | skip
     all_goals
       refine AC (d:=_) rfl ?_
       exact fin rfl
   | false=>
     walk_at "r"
     cases D <;> first | (exfalso;simp only[Deed.word] at h1;revert h1;decide +kernel) | (exfalso;simp only[Deed.word] at h2;revert h2;decide +kernel) | exact fin rfl
end
def JC:List Str:=["_law_lines", "_law_made_at", "_law_found", "_law_number", "_law_deed_here", "_law_made_here"]
def GY:List Str:=["_law_name", "_law_made_at"]
def GZ:List (Option Nat):=[none,some 1]
theorem MR:GY.Nodup:=by decide +kernel
theorem JD:FnScope JC ["_law_lines"] (AA CP):=⟨rfl,rfl,rfl,by decide +kernel,rfl,by decide +kernel,by decide +kernel⟩
section
local macro_rules | `(tactic| walk_at "cs")=>`(tactic| first | exact @DJ _ _ GY GZ (AA CP) JC (by decide +kernel) (by decide +kernel) rfl rfl)
local macro_rules | `(tactic| walk_at "x")=>`(tactic| first | ((with_reducible show PE _ (.Dict ..) _);exact @NB _ _) | ((with_reducible show PT _ (.Compare _ [.In] ..) _);exact @VF _ _ _ _ _ _ (@VT _ _ _ _ _ hu1 (by walk_at "e") (by walk_at "e")) (by with_unfolding_all rfl)) | ((with_reducible show PS _ (.Assign [.Subscript ..] ..) _);exact @R9 _ _ _ _ _ _ _ _ _ hu1 (by walk_at "e") (by walk_at "e") (by walk_at "e") (by rfl)))
local macro_rules | `(tactic| walk_at "y")=>`(tactic| first | ((with_reducible show PE _ (.Subscript ..) _);exact @MW _ _ _ _ _ _ hu1 (@pv _ 1 _ _ (by rfl) (by walk_at "lc") (by decide) (by decide)) (@pv _ 0 _ _ (by rfl) (by walk_at "lc") (by decide) (by decide)) (fun _ _=>rfl)))
theorem PK {f:Addr}{fd:FuncData}(F:Fun K "_law_needs" "_law_needs" CP f fd) (n_len:mg "len"=none) (n_range:mg "range"=none) (h__law_made:Has P w K mg base "_law_made" 1 ["_law_deed_here"] FR) (h__law_must:Has P w K mg base "_law_must" 1 ["_law_deed_here"] CA):FnOk P w K mg base CX0 2 f fd ["_law_lines"] (spD K 1 FS):=by
 refine fnD F JD fun cdv A outer s H E hr=>?_
 have hu:=hr.units
 have hu1:=zQ (a5Q (show 1<=64 by decide) _) hu
 have nd:=JD.nd
 have n0:=MR
 refine⟨_,by walk_at "b2", ?_⟩
 clear nd n0
 rintro xs M hl ⟨ls,rfl,hg⟩
 have hfew:=hg.few
 walk_at "r"
 refine OL fun p hp=>?_
 walk_at "r"
 refine II ?_
 walk_at "r"
 intro q hq
 have hpq:p≠q:=by rintro rfl;rw[zU] at hq;cases hq
 walk_at "wks"
 refine DQ (fun ρ1 M1=>∃(G:List (List Nat)) (ts:List (Str×PyData)),G.length=ls.length/\NdG (dsL ls) G/\M1=(M.put p (.d (AV ts))).put q (.l (G.map fun g=>.list (AB g)))/\∃x3 x4 x5:Option DS,ρ1=[some (.d (AJ ls)),some (.loc p),some (.loc q),x3,x4,x5]) ?_ ?_
 · refine G9 ?_
   refine G8 ?_
   walk_at "r"
   refine IJ ?_
   rw[zX]
   walk_at "r"
   refine⟨by omega,by omega,?_⟩
   refine⟨fun k ρ1 M1=>∃(G:List (List Nat)) (ts:List (Str×PyData)),G.length=k/\NdG (dsL ls) G/\MdT (dsL ls) ts k/\M1=(M.put p (.d (AV ts))).put q (.l (G.map fun g=>.list (AB g)))/\∃x3 x4 x5:Option DS,ρ1=[some (.d (AJ ls)),some (.loc p),some (.loc q),x3,x4,x5],⟨[],[],rfl,⟨by simp,by simp⟩,MdT.start _,rfl,_,_,_,rfl⟩,?_,?_⟩
   · rintro k d ρ1 M1 hd ⟨G,ts,hG,hN,hT,rfl,x3,x4,x5,rfl⟩
     obtain⟨hk,rfl⟩:=Y3 hd
     obtain⟨l,hlk,hlm,hll,hld⟩:=IN hk
     have hr:=hg.real l hlm
     have hfewT:=hT.few
     walk_at "r"
     refine AC (ds:=ls.map BY) (AD hll) ?_
     walk_at "r"
     refine AC (ds:=[.str l.1,l.2.d]) (d:=l.2.d) rfl ?_
     walk_at "r"
     refine Q2 ?_
     walk_at "dl"
     refine⟨K0 (ds:=G.map fun g=>.list (AB g)) zU,?_⟩
     walk_at "r"
     refine GC (AN 0) (by simp[GZ]) ?_
     refine B3 ?_
     walk_at "r"
     refine ZS hr ?_
     refine⟨_,rfl,by rw[zX];exact zQ (UY _) (by decide),cTs ts,fTs ts,?_,?_⟩
     · rintro d hd2 A acc M' hA rfl
       obtain⟨n,hn,rfl⟩:=zL.mp hd2
       have hpA:p≠A:=by rintro rfl;rw[yH hpq,zU] at hA;cases hA
       walk_at "dl"
       refine⟨rfl,?_⟩
       walk_at "r"
       refine XT ?_
       walk_at "r"
       refine⟨p,ts,n,rfl,rfl,by rw[yH hpA,yH hpq];exact zU,?_⟩
       refine⟨_,rfl,rfl,rfl,fun hc=>?_⟩
       obtain⟨v,hv⟩:=xY.mp (show(AL ts n).isSome=true from hc)
       refine U7 ?_
       walk_at "r"
       refine⟨p,ts,n,v,rfl,rfl,by rw[yH hpA,yH hpq];exact zU,hv,?_,rfl⟩
       show DS.d v = .d ((AL ts n).getD .none)
       rw[hv];rfl
     rw[Y9 hT]
     walk_at "r"
     refine FJ (ds:=G.map fun g=>.list (AB g)) zU (by rw[zX];exact zQ (show _<=50 by omega) (by decide)) ?_
     rw[yI,show(G.map fun g=>PyData.list (AB g))++[.list (AB (l.2.must.filterMap (lkN ts)))]=((G++[l.2.must.filterMap (lkN ts)]).map fun g=>PyData.list (AB g)) by rw[xI];rfl]
     have hN2:NdG (dsL ls) (G++[l.2.must.filterMap (lkN ts)]):=hN.snoc (fun j=>by rw[hG];exact nZ hg.fresh hld hT j) (zN (b7K _ _) (UY _))
     have hG2:(G++[l.2.must.filterMap (lkN ts)]).length=k+1:=by rw[yY,hG];rfl
     walk_at "r"
     refine UU hr ?_
     walk_at "r"
     refine NO ?_
     have hmk:=qD hld
     cases hm:l.2.made with
     | none=>
       rw[hm] at hmk
       walk_at "r"
       exact⟨_,_,hG2,hN2,hT.same hmk,rfl,_,_,_,rfl⟩
     | some n=>
       rw[hm] at hmk
       walk_at "r"
       refine XU ?_
       walk_at "r"
       refine⟨p,ts,n,.int (k:Int),rfl,rfl,rfl,by rw[yH hpq];exact zU,zQ (show _<=50 by omega) (by decide),?_⟩
       refine⟨_,_,hG2,hN2,hT.put hg.fresh hmk,?_,_,_,_,rfl⟩
       rw[Own.put_comm (b1Q hpq),yI]
   · rintro ρ1 M1 ⟨G,ts,hG,hN,hT,rfl,x3,x4,x5,rfl⟩
     rw[eB] at hG
     exact⟨G,ts,hG,hN,rfl,_,_,_,rfl⟩
 · rintro ρ1 M1 ⟨G,ts,hG,hN,rfl,x3,x4,x5,rfl⟩
   refine Q3 (i:=2) rfl zU ?_
   have hMq:M q=none:=by rw[yH (b1Q hpq)] at hq;exact hq
   rw[yG (by rw[yH (b1Q hpq)];exact hMq)]
   walk_at "r"
   refine⟨M,(zT M).put hp,fun ls' e=>?_⟩
   simp only[List.cons.injEq,DS.d.injEq,PyData.tuple.injEq,and_true] at e
   have e:=E8 e
   subst e
   exact⟨G,rfl,hG,hN,rfl⟩
end
def JE:List Str:=["_law_lines", "_law_bits", "_law_wants", "_law_found", "_law_number"]
def H0:List Str:=["_law_need", "_law_found"]
def HA:List (Option Nat):=[none,some 3]
theorem MS:H0.Nodup:=by decide +kernel
theorem JF:FnScope JE ["_law_lines", "_law_bits"] (AA CQ):=⟨rfl,rfl,rfl,by decide +kernel,rfl,by decide +kernel,by decide +kernel⟩
section
local macro_rules | `(tactic| walk_at "cs")=>`(tactic| first | exact @DJ _ _ H0 HA (AA CQ) JE (by decide +kernel) (by decide +kernel) rfl rfl)
local macro_rules | `(tactic| walk_at "x")=>`(tactic| first | ((with_reducible show PE _ (.Compare _ [.In] ..) _);exact @D5 _ _ _ _ _ _ _ _ (@pX _ K rfl hu) (by walk_at "e") (by walk_at "e") (by with_unfolding_all rfl)))
theorem PL {f:Addr}{fd:FuncData}(F:Fun K "_law_stand" "_law_stand" CQ f fd) (n_all:mg "all"=none) (n_len:mg "len"=none) (n_range:mg "range"=none) (n_tuple:mg "tuple"=none) (h__law_needs:Has P w K mg base "_law_needs" 2 ["_law_lines"] FS):FnOk P w K mg base CX0 3 f fd ["_law_lines", "_law_bits"] (spD K 2 FT):=by
 refine fnD F JF fun cdv A outer s H E hr=>?_
 have hu:=hr.units
 have nd:=JF.nd
 have n0:=MS
 refine⟨_,by walk_at "b2", ?_⟩
 clear nd n0
 rintro xs M hl ⟨ls,b,rfl,hg⟩
 have hfew:=hg.few
 walk_at "r"
 refine SJ hg fun G hG hN=>?_
 walk_at "r"
 refine II ?_
 walk_at "r"
 intro q hq
 walk_at "wks"
 refine DQ (fun ρ1 M1=>∃st,isSt ls st/\M1=M.put q (.l (AB st))/\∃x4:Option DS,ρ1=[some (.d (AJ ls)),some (.d (.int b)),some (.d (SH G)),some (.loc q),x4]) ?_ ?_
 · refine G9 ?_
   refine G8 ?_
   walk_at "r"
   refine IJ ?_
   rw[zX]
   walk_at "r"
   refine⟨by omega,by omega,?_⟩
   refine⟨fun k ρ1 M1=>∃st,isSt ls st/\(∀m∈st,m < k)/\M1=M.put q (.l (AB st))/\∃x4:Option DS,ρ1=[some (.d (AJ ls)),some (.d (.int b)),some (.d (SH G)),some (.loc q),x4],⟨[],isSt.nil _,by simp,rfl,_,rfl⟩,?_,?_⟩
   · rintro k d ρ1 M1 hd ⟨st,hs,hb,rfl,x4,rfl⟩
     obtain⟨hk,rfl⟩:=Y3 hd
     have hb2:∀m∈st,m < k+1:=fun m hm=>by have:=hb m hm;omega
     obtain⟨g,hgk⟩:∃g,G[k]?=some g:=⟨_,zV (by omega)⟩
     walk_at "r"
     refine XF (show(0:Int)<=(k:Int) by omega) ?_
     walk_at "r"
     refine AU rfl rfl ?_
     rw[if_neg nft,E3]
     cases decide (b/2 ^ ((k:Int)).toNat % 2=1) with
     | false=>
       walk_at "r"
       exact⟨st,hs,hb2,rfl,_,rfl⟩
     | true=>
       walk_at "r"
       refine GC (AN 0) (by simp[HA]) ?_
       refine B3 ?_
       walk_at "r"
       refine BO (ds:=G.map fun g=>.list (AB g)) (d:=.list (AB g)) (AD (by rw[zF,hgk];rfl)) ?_
       have hg2:=hN.few g (yN hgk)
       refine⟨_,rfl,by rw[AH];exact zQ hg2 (by decide),fun _=>true,fIn st,?_,?_⟩
       · rintro d hd2 A acc M' hA rfl
         obtain⟨i,hi,rfl⟩:=zL.mp hd2
         have hqA:q≠A:=by rintro rfl;rw[zU] at hA;cases hA
         walk_at "dl"
         refine⟨rfl,?_⟩
         walk_at "dl"
         refine⟨rfl,rfl,fun _=>?_⟩
         walk_at "r"
         refine e9 (ds:=AB st) (by rw[yH hqA];exact zU) rfl (LV _) ?_
         exact⟨rfl,rfl⟩
       rw[jD]
       walk_at "r"
       refine NF ?_
       cases hall:(g.map fun j=>decide (j∈st)).all id with
       | false=>
         walk_at "r"
         exact⟨st,hs,hb2,rfl,_,rfl⟩
       | true=>
         have hin:∀j∈DH (dsL ls) k,j∈st:=fun j hj=>by
           have h1:j∈g:=(hN.mem k g hgk j).mpr hj
           have:=List.all_eq_true.mp hall (decide (j∈st)) (zL.mpr ⟨j,h1,rfl⟩)
           exact of_decide_eq_true this
         have hsl:=hs.len
         walk_at "r"
         refine Q2 ?_
         walk_at "dl"
         refine⟨K0 (ds:=AB st) zU,?_⟩
         walk_at "r"
         refine FJ (ds:=AB st) zU (by rw[AH];exact zQ (show _<=50 by omega) (by decide)) ?_
         rw[yI,LD]
         refine⟨st++[k],hs.snoc hb hk hin,fun m hm=>?_,rfl,_,rfl⟩
         rcases yW.mp hm with z | z
         · exact hb2 m z
         · rw[show m=k by simpa using z];omega
   · rintro ρ1 M1 ⟨st,hs,hb,rfl,x4,rfl⟩
     exact⟨st,hs,rfl,_,rfl⟩
 · rintro ρ1 M1 ⟨st,hs,rfl,x4,rfl⟩
   walk_at "r"
   refine UH zU ?_
   refine⟨M,(zT M).put hq,fun ls' b' e=>?_⟩
   simp only[List.cons.injEq,DS.d.injEq,PyData.tuple.injEq,and_true] at e
   have e:=E8 e.1
   subst e
   exact⟨st,rfl,hs,rfl⟩
end
def JG:List Str:=["_law_deed_here", "_law_found", "_law_name"]
def HB:List Str:=["_law_part"]
def HC:List (Option Nat):=[none]
theorem MT:HB.Nodup:=by decide +kernel
theorem JH:FnScope JG ["_law_deed_here"] (AA CS):=⟨rfl,rfl,rfl,by decide +kernel,rfl,by decide +kernel,by decide +kernel⟩
section
local macro_rules | `(tactic| walk_at "cs")=>`(tactic| first | exact @DJ _ _ HB HC (AA CS) JG (by decide +kernel) (by decide +kernel) rfl rfl)
local macro_rules | `(tactic| walk_at "x")=>`(tactic| first | ((with_reducible show PT _ (.Compare _ [.In] ..) _);exact @BN _ _ _ _ _ _ _ _ (@kIn _ K rfl) (by walk_at "e") (by walk_at "e") (by with_unfolding_all rfl)) | ((with_reducible show PE _ (.Dict ..) _);exact @RC _ _ _ _ _ (@HI _ _ _ _ _ _ _ _ _ (by walk_at "e") (by walk_at "e") (@RB _ _)) rfl rfl (by simp) (by decide)) | ((with_reducible show PE _ (.Dict ..) _);exact @RC _ _ _ _ _ (@HI _ _ _ _ _ _ _ _ _ (by walk_at "e") (by walk_at "e") (@HI _ _ _ _ _ _ _ _ _ (by walk_at "e") (by walk_at "e") (@RB _ _))) rfl rfl (by simp) (by decide)) | ((with_reducible show PE _ (.Dict ..) _);exact @NB _ _) | ((with_reducible show PS _ (.Assign [.Subscript ..] ..) _);exact @R9 _ _ _ _ _ _ _ _ _ hu1 (by walk_at "e") (by walk_at "e") (by walk_at "e") (by rfl)))
theorem PM {f:Addr}{fd:FuncData}(F:Fun K "_law_kinds" "_law_kinds" CS f fd) (n_isinstance:mg "isinstance"=none) (n_str:mg "str"=none):FnOk P w K mg base CX0 1 f fd ["_law_deed_here"] (spD K 1 E9):=by
 refine fnD F JH fun cdv A outer s H E hr=>?_
 have hu:=hr.units
 have hu1:=zQ (a5Q (show 1<=64 by decide) _) hu
 have nd:=JH.nd
 have n0:=MT
 refine⟨_,by walk_at "b2", ?_⟩
 clear nd n0
 rintro xs M hl ⟨D,rfl,hr⟩
 have hap:=hr.2.1
 have fin:∀{ts:List (Str×PyData)},IB D=ts->∃M2:Own,M2.Sub M/\E9.post [.d D.d] M (.d (.dict (AV ts))) M2:=fun e2=>⟨M,zT M,fun D' e=>by
   simp only[List.cons.injEq,DS.d.injEq,and_true] at e
   obtain rfl:=EF e
   exact⟨by rw[e2],rfl⟩⟩
 rw[D.d_eq] at *
 walk_at "r"
 refine AC (d:=.str D.word) (AD (j:=0) rfl) ?_
 walk_at "wkd"
 refine D6 (ys:=[a0Q "count", a0Q "move"]) ?_
 rw[show decide (D.word∈[a0Q "count", a0Q "move"])=(D.word==a0Q "count" || D.word==a0Q "move") by rw[a2W];simp]
 cases h1:(D.word==a0Q "count" || D.word==a0Q "move") with
 | true=>
   walk_at "r"
   refine FK fun q hq=>?_
   refine BI ?_
   walk_at "r"
   refine AC (d:=.str D.fst) (AD (j:=1) rfl) ?_
   walk_at "r"
   refine AC (d:=.str D.word) (AD (j:=0) rfl) ?_
   walk_at "r"
   refine IK ?_
   refine⟨zU,yD rfl,by simp,?_⟩
   rw[yG hq]
   cases D <;> first | (exfalso;simp only[Deed.word] at h1;revert h1;decide +kernel) | skip
   · exact fin (fB _ _)
   · exact fin (aC _ _)
 | false=>
   walk_at "r"
   refine AC (d:=.str D.word) (AD (j:=0) rfl) ?_
   walk_at "wkd"
   refine D6 (ys:=[a0Q "split", a0Q "join"]) ?_
   rw[show decide (D.word∈[a0Q "split", a0Q "join"])=(D.word==a0Q "split" || D.word==a0Q "join") by rw[a2W];simp]
   cases h2:(D.word==a0Q "split" || D.word==a0Q "join") with
   | true=>
     walk_at "r"
     cases D <;> first | (exfalso;simp only[Deed.word] at h2;revert h2;decide +kernel) | skip
     all_goals
       refine FK fun q hq=>?_
       refine BI ?_
       walk_at "r"
       refine AC (d:=_) rfl ?_
       walk_at "r"
       refine BI ?_
       walk_at "r"
       refine AC (d:=_) rfl ?_
       walk_at "r"
       refine IK ?_
       refine⟨zU,yD rfl,(by simp only[zI,a5Z,xV,List.mem_singleton,xX,not_false_eq_true,List.nodup_nil,and_true];exact hap),?_⟩
       rw[yG hq]
       first | exact fin (aD hap _ _) | exact fin (fC hap)
   | false=>
     have hname:∃L:List Str,L.Nodup/\L.length<=2/\(((CT (.str D.word::.str D.fst::D.rest) (some 1) (some 3)).filter YA).map id)=L.map a0K/\(CT (.str D.word::.str D.fst::D.rest) (some 1) (some 3)).length<=2/\IB D=L.map fun x=>(x,a0K (a0Q "end")):=by
       cases D <;> first | (exfalso;simp only[Deed.word] at h1;revert h1;decide +kernel) | (exfalso;simp only[Deed.word] at h2;revert h2;decide +kernel) | skip
       · exact⟨[_],by simp,by simp,rfl,yD rfl,rfl⟩
       · exact⟨[_],by simp,by simp,rfl,yD rfl,rfl⟩
       · exact⟨[_,_],(by simp only[zI,a5Z,xV,List.mem_singleton,xX,not_false_eq_true,List.nodup_nil,and_true];exact hap),by simp,rfl,yD rfl,rfl⟩
     obtain⟨L,hnd,hL2,hLc,hcl,hkin⟩:=hname
     walk_at "r"
     refine OL fun q hq=>?_
     walk_at "wks"
     refine DQ (fun ρ1 M1=>M1=M.put q (.d (AV (L.map fun x=>(x,a0K (a0Q "end")))))/\∃x2:Option DS,ρ1=[some (.d (.tuple (.str D.word::.str D.fst::D.rest))),some (.loc q),x2]) ?_ ?_
     · refine G9 ?_
       refine B3 ?_
       refine AF (AN 0) (by simp[HC]) ?_
       refine B9 ?_
       walk_at "r"
       refine HN ?_
       refine⟨_,rfl,zQ hcl (by decide),YA,id,?_,?_⟩
       · intro d hd M'
         walk_at "dl"
         refine⟨rfl,?_⟩
         cases d <;> (
           walk_at "r"
           exact⟨rfl,rfl,fun _=>by walk_at "r";exact⟨rfl,rfl⟩⟩)
       rw[hLc]
       refine⟨_,rfl,fun k ρ1 M1=>M1=M.put q (.d (AV ((L.take k).map fun x=>(x,a0K (a0Q "end")))))/\∃x2:Option DS,ρ1=[some (.d (.tuple (.str D.word::.str D.fst::D.rest))),some (.loc q),x2],⟨rfl,_,rfl⟩,?_,?_⟩
       · rintro k d ρ1 M1 hd ⟨rfl,x2,rfl⟩
         rw[zF] at hd
         cases hn:L[k]? with
         | none=>rw[hn] at hd;cases hd
         | some n=>
           rw[hn] at hd
           cases hd
           walk_at "r"
           refine XU ?_
           walk_at "r"
           refine⟨q,_,n,.str (a0Q "end"),rfl,rfl,rfl,zU,by rw[zX,a2X];exact zQ (show _<=2 by omega) (by decide),?_⟩
           rw[fD hnd hn,yI]
           exact⟨rfl,_,rfl⟩
       · rintro ρ1 M1 ⟨rfl,x2,rfl⟩
         rw[zX,a3X]
         exact⟨rfl,_,rfl⟩
     · rintro ρ1 M1 ⟨rfl,x2,rfl⟩
       refine WJ (i:=1) rfl zU ?_
       rw[yG hq]
       walk_at "r"
       exact fin hkin
end
def PN:List Str:=["_law_one", "_law_other", "_law_here", "_law_there", "_law_name", "_law_both"]
theorem FE:FnScope PN ["_law_one", "_law_other"] (AA E6):=⟨rfl,rfl,rfl,by decide +kernel,rfl,by decide +kernel,by decide +kernel⟩
section
local macro_rules | `(tactic| walk_at "x")=>`(tactic| first | ((with_reducible show PS _ (.Assign [.Tuple ..] (.Tuple ..) _) _);exact @l6 _ _ (2) (3) _ _ _ _ _ _ _ _ _ _ _ rfl FE.nd rfl rfl (by decide) rfl rfl (by walk_at "a") rfl (by rfl)) | ((with_reducible show PT _ (.Compare _ [.In] ..) _);exact @VF _ _ _ _ _ _ (@VT _ _ _ _ _ hu1 (by walk_at "e") (by walk_at "e")) (by with_unfolding_all rfl)))
local macro_rules | `(tactic| walk_at "y")=>`(tactic| first | ((with_reducible show PI _ _ (.Name ..) _);exact @iZ _ _ _ _ (@pv _ 2 _ _ (by rfl) (by walk_at "lc") (by decide) (by decide))) | ((with_reducible show PE _ (.Subscript ..) _);exact @MW _ _ _ _ _ _ hu1 (@pv _ 2 _ _ (by rfl) (by walk_at "lc") (by decide) (by decide)) (@pv _ 4 _ _ (by rfl) (by walk_at "lc") (by decide) (by decide)) (fun _ _=>rfl)) | ((with_reducible show PE _ (.Subscript ..) _);exact @MW _ _ _ _ _ _ hu1 (@pv _ 3 _ _ (by rfl) (by walk_at "lc") (by decide) (by decide)) (@pv _ 4 _ _ (by rfl) (by walk_at "lc") (by decide) (by decide)) (fun _ _=>rfl)))
theorem PP {f:Addr}{fd:FuncData}(F:Fun K "_law_touch" "_law_touch" E6 f fd) (n_sorted:mg "sorted"=none) (h__law_kinds:Has P w K mg base "_law_kinds" 1 ["_law_deed_here"] E9):FnOk P w K mg base CX0 2 f fd ["_law_one", "_law_other"] (spD K 2 EA):=by
 refine fnD F FE fun cdv A outer s H E hr=>?_
 have hu:=hr.units
 have hu1:=zQ (a5Q (show 1<=64 by decide) _) hu
 have nd:=FE.nd
 refine⟨_,by walk_at "b2", ?_⟩
 clear nd
 rintro xs M hl ⟨D,E',rfl,hD,hE⟩
 have fin:∀{b:Bool},C0 D.d E'.d=b->∃M2:Own,M2.Sub M/\EA.post [.d D.d,.d E'.d] M (.d (.bool b)) M2:=fun e2=>⟨M,zT M,fun D' E2 e=>by
   simp only[List.cons.injEq,DS.d.injEq,and_true] at e
   obtain rfl:=EF e.1
   obtain rfl:=EF e.2
   exact⟨by rw[e2],rfl⟩⟩
 walk_at "r"
 refine OH hD ?_
 walk_at "r"
 refine OH hE ?_
 walk_at "r"
 refine⟨_,_,rfl,?_⟩
 refine DQ (fun ρ1 M1=>M1=M/\(∀n∈D.names,GG D E' n=false)) ?_ ?_
 · refine G9 ?_
   refine j0 ?_
   walk_at "r"
   rw[show XY (IB D)=D.names.map .str by unfold XY IB;rw[zD];rfl]
   refine⟨fun k ρ' M'=>M'=M/\(∀n∈D.names.take k,GG D E' n=false)/\∃x y,ρ'=[some (.d D.d),some (.d E'.d),some (.d (.dict (AV (IB D)))),some (.d (.dict (AV (IB E')))),x,y],⟨rfl,by simp,_,_,rfl⟩,?_,?_⟩
   · rintro k d ρ' M' hd ⟨rfl,hk,x,y,rfl⟩
     rw[zF] at hd
     cases hdk:D.names[k]? with
     | none=>rw[hdk] at hd;cases hd
     | some n=>
       rw[hdk] at hd
       cases hd
       have hn:n∈D.names:=yN hdk
       have next:GG D E' n=false->∀m∈D.names.take (k+1),GG D E' m=false:=fun h m hm=>by
         rw[a4Z,hdk] at hm
         rcases yW.mp hm with h1 | h1
         · exact hk m h1
         · have:m=n:=by simpa using h1
           subst this;exact h
       walk_at "r"
       refine j7 ?_
       walk_at "r"
       refine⟨IB E',n,rfl,rfl,?_⟩
       rw[OG]
       by_cases hm:n∈E'.names
       · rw[if_pos hm]
         walk_at "r"
         refine BA ?_
         walk_at "r"
         refine U8 ?_
         walk_at "r"
         refine⟨IB D,n,.str (IA (B8 D.d n)),rfl,rfl,by rw[OG,if_pos hn],?_⟩
         walk_at "r"
         refine U8 ?_
         walk_at "r"
         refine⟨IB E',n,.str (IA (B8 E'.d n)),rfl,rfl,by rw[OG,if_pos hm],?_⟩
         walk_at "r"
         refine cY (i3 (ss:=[IA (B8 D.d n),IA (B8 E'.d n)]) (by show 2 < 64;decide) fun ss hp hs=>?_)
         have key:=nY _ _ (E7 D.d n) (E7 E'.d n) hp hs
         have hsh:zH (.list (ss.map .str))=true:=LT fun s hs'=>by
           have:=hp.mem_iff.mp hs'
           rcases yX.mp this with rfl | h
           · exact eZ _ (E7 D.d n)
           · have e:s=IA (B8 E'.d n):=by simpa using h
             subst e;exact eZ _ (E7 E'.d n)
         walk_at "r"
         refine BA ?_
         walk_at "r"
         refine AU hsh (by decide +kernel) ?_
         rw[if_pos rfl]
         cases h1:a0Z (.list (ss.map .str)) (.list [.str (a0Q "count"),.str (a0Q "count")]) with
         | true=>
           rw[h1] at key
           walk_at "r"
           exact⟨rfl,next (by unfold GG;rw[decide_eq_true hm,← key];rfl),_,_,rfl⟩
         | false=>
           rw[h1] at key
           walk_at "r"
           refine BA ?_
           walk_at "r"
           refine AU hsh (by decide +kernel) ?_
           rw[if_pos rfl]
           cases h2:a0Z (.list (ss.map .str)) (.list [.str (a0Q "count"),.str (a0Q "move")]) with
           | true=>
             rw[h2] at key
             walk_at "r"
             exact⟨rfl,next (by unfold GG;rw[decide_eq_true hm,← key];rfl),_,_,rfl⟩
           | false=>
             rw[h2] at key
             walk_at "r"
             refine fin ?_
             rw[UC,List.any_eq_true.mpr ⟨n,hn,by unfold GG;rw[decide_eq_true hm,← key];rfl⟩]
       · rw[if_neg hm]
         walk_at "r"
         exact⟨rfl,next (by unfold GG;rw[decide_eq_false hm];rfl),_,_,rfl⟩
   · rintro ρ' M' ⟨rfl,hk,x,y,rfl⟩
     rw[zX,a3X] at hk
     exact⟨rfl,hk⟩
 · rintro ρ' M' ⟨rfl,hk⟩
   walk_at "r"
   refine fin ?_
   rw[UC,List.any_eq_false.mpr fun n hn=>by rw[hk n hn];simp]
end
def JI:List Str:=["_law_found", "_law_due"]
theorem D8:FnScope JI ["_law_found", "_law_due"] (AA BV):=⟨rfl,rfl,rfl,by decide +kernel,rfl,by decide +kernel,by decide +kernel⟩
section
local macro_rules | `(tactic| walk_at "z")=>`(tactic| first | ((with_reducible show PS _ (.If ..) _);exact @jK _ _ _ _ _ _ _ _ (by walk_at "t") (@YG _ _) (by walk_at "q")))
theorem OW {f:Addr}{fd:FuncData}(F:Fun K "_law_alike" "_law_alike" BV f fd) (n_bool:mg "bool"=none) (n_isinstance:mg "isinstance"=none) (n_tuple:mg "tuple"=none):FnOk P w K mg base CX0 1 f fd ["_law_found", "_law_due"] (spD K 2 BZ):=by
 refine fnD F D8 fun cdv A outer s H E hr=>?_
 have hu:=hr.units
 have nd:=D8.nd
 refine⟨_,by walk_at "b2", ?_⟩
 clear nd
 rintro xs M hl ⟨i,rfl⟩
 walk_at "r"
 refine AU rfl rfl ?_
 rw[if_neg nft,E3,decide_eq_true rfl]
 exact⟨M,zT M,rfl,rfl⟩
end
def HD:List Str:=["_law_one", "_law_other"]
def HE:List (Option Nat):=[none,none]
theorem MU:HD.Nodup:=by decide +kernel
section
local macro_rules | `(tactic| walk_at "cs")=>`(tactic| first | exact @DJ _ _ HD HE (AA BV) JI (by decide +kernel) (by decide +kernel) rfl rfl)
local macro_rules | `(tactic| walk_at "x")=>`(tactic| first | ((with_reducible show PI _ _ (.Call (.Name (a0Q "zip") _) ..) _);exact @kG _ K _ _ _ _ _ _ _ _ rfl rfl n_zip (by walk_at "a") (by rfl) (by rfl)) | ((with_reducible show PG _ (.Tuple ..) _);exact @i9 _ K _ _ _ _ (2) rfl rfl (by walk_at "j") (by rfl) (by rfl)))
theorem PQ {f:Addr}{fd:FuncData}(F:Fun K "_law_alike" "_law_alike" BV f fd) (n_all:mg "all"=none) (n_bool:mg "bool"=none) (n_isinstance:mg "isinstance"=none) (n_len:mg "len"=none) (n_tuple:mg "tuple"=none) (n_zip:mg "zip"=none) (h__law_alike0:Has P w K mg base "_law_alike" 1 ["_law_found", "_law_due"] BZ):FnOk P w K mg base CX0 2 f fd ["_law_found", "_law_due"] (spD K 2 CM):=by
 refine fnD F D8 fun cdv A outer s H E hr=>?_
 have hu:=hr.units
 have nd:=D8.nd
 have n0:=MU
 refine⟨_,by walk_at "b2", ?_⟩
 clear nd n0
 rintro xs M hl ⟨c,rfl,hc⟩
 rw[show chD c = .tuple (AB c) from rfl]
 walk_at "r"
 refine IJ ?_
 walk_at "r"
 refine IJ ?_
 walk_at "r"
 refine AU rfl rfl ?_
 rw[if_pos rfl,E3,decide_eq_true rfl]
 walk_at "r"
 refine AF (RS (ES (ES RR))) (by simp[HE]) ?_
 refine Y5 ?_
 walk_at "r"
 refine⟨AB c,AB c,rfl,?_⟩
 refine⟨by unfold P2;rw[zX,b4Z,AH];exact zQ (zN (Nat.min_le_left _ _) hc) (by decide),fun _=>true,fun _=>.bool true,?_,?_⟩
 · intro d hd M'
   unfold P2 at hd
   obtain⟨p,hp,rfl⟩:=zL.mp hd
   have e:p.1=p.2:=by
     obtain⟨i,hi,e⟩:=List.mem_iff_getElem.mp hp
     rw[List.getElem_zip] at e
     rw[← e]
   obtain⟨h1,_⟩:=List.of_mem_zip hp
   obtain⟨i,_,e1⟩:=zL.mp h1
   rw[← e,← e1]
   walk_at "r"
   refine⟨rfl,?_⟩
   walk_at "dl"
   refine⟨rfl,rfl,fun _=>?_⟩
   walk_at "r"
   refine UV ?_
   exact⟨rfl,rfl⟩
 rw[S5,IO]
 walk_at "r"
 refine NF ?_
 rw[KA]
 exact⟨M,zT M,rfl,rfl⟩
end
def BM:List Str:=["_law_lines", "_law_stand_here", "_law_wished", "_law_found", "_law_ahead", "_law_number", "_law_below", "_law_meets"]
def FX:List Str:=["_law_number", "_law_wished"]
def FY:List (Option Nat):=[none,some 2]
theorem LJ:FX.Nodup:=by decide +kernel
def FZ:List Str:=["_law_number", "_law_stand_here"]
def G0:List (Option Nat):=[none,some 1]
theorem LK:FZ.Nodup:=by decide +kernel
def G1:List Str:=["_law_other", "_law_number"]
def G2:List (Option Nat):=[none,some 5]
theorem LL:G1.Nodup:=by decide +kernel
def G3:List Str:=["_law_other", "_law_lines", "_law_number"]
def G4:List (Option Nat):=[none,some 0,some 5]
theorem LM:G3.Nodup:=by decide +kernel
theorem IG:FnScope BM ["_law_lines", "_law_stand_here", "_law_wished"] (AA B2):=⟨rfl,rfl,rfl,by decide +kernel,rfl,by decide +kernel,by decide +kernel⟩
section
local macro_rules | `(tactic| walk_at "cs")=>`(tactic| first | exact @DJ _ _ FX FY (AA B2) BM (by decide +kernel) (by decide +kernel) rfl rfl | exact @DJ _ _ FZ G0 (AA B2) BM (by decide +kernel) (by decide +kernel) rfl rfl | exact @DJ _ _ G1 G2 (AA B2) BM (by decide +kernel) (by decide +kernel) rfl rfl | exact @DJ _ _ G3 G4 (AA B2) BM (by decide +kernel) (by decide +kernel) rfl rfl)
local macro_rules | `(tactic| walk_at "x")=>`(tactic| first | ((with_reducible show PT _ (.Compare _ [.NotIn] ..) _);exact @BN _ _ _ _ _ _ _ _ (@XZ _ K rfl hu) (by walk_at "e") (by walk_at "e") (by with_unfolding_all rfl)))
local macro_rules | `(tactic| walk_at "y")=>`(tactic| first | ((with_reducible show PE _ (.Call (.Name (a0Q "sorted") _) ..) _);exact @BW _ _ _ _ _ _ _ _ _ (@WI _ K rfl rfl) (by rfl) n_sorted a9J (by walk_at "a") (by decide) (by decide) (by rfl) (by rfl)))
theorem OX {f:Addr}{fd:FuncData}(F:Fun K "_law_lifted" "_law_lifted" B2 f fd) (n_any:mg "any"=none) (n_sorted:mg "sorted"=none) (h__law_touch:Has P w K mg base "_law_touch" 2 ["_law_one", "_law_other"] EA):FnOk P w K mg base CX0 3 f fd ["_law_lines", "_law_stand_here", "_law_wished"] (spD K 3 DK):=by
 refine fnD F IG fun cdv A outer s H E hr=>?_
 have hu:=hr.units
 have nd:=IG.nd
 have n0:=LJ
 have n1:=LK
 have n2:=LL
 have n3:=LM
 refine⟨_,by walk_at "b2", ?_⟩
 clear nd n0 n1 n2 n3
 rintro xs M hl ⟨ls,st,ws,rfl,hg,hs,hw⟩
 have hfew:=hg.few
 have hls:=hs.len
 have hlw:=hw.len
 have hco:(coN st ws).length<=50:=zN (yJ _ _) (by omega)
 rw[show lxL ls st ws=[.d (AJ ls),.d (.tuple (AB st)),.d (.tuple (AB ws))] from rfl]
 walk_at "r"
 refine P5 (AN 0) (by simp[FY]) ?_
 refine B9 ?_
 walk_at "r"
 refine⟨by rw[AH];exact zQ (zN hls hfew) (by decide),cKp ws,id,?_,fun q hq=>?_⟩
 · intro d hd M'
   obtain⟨i,hi,rfl⟩:=zL.mp hd
   walk_at "dl"
   refine⟨rfl,?_⟩
   walk_at "r"
   refine K9 (ds:=AB ws) rfl (CK _) ?_
   refine⟨_,rfl,rfl,rfl,fun _=>?_⟩
   walk_at "r"
   exact⟨rfl,rfl⟩
 rw[a9X,LG]
 walk_at "r"
 refine AF (AN 0) (by simp[G0]) ?_
 refine B9 ?_
 walk_at "r"
 refine⟨by rw[AH];exact zQ (zN hlw hfew) (by decide),cKp st,id,?_,?_⟩
 · intro d hd M'
   obtain⟨i,hi,rfl⟩:=zL.mp hd
   walk_at "dl"
   refine⟨rfl,?_⟩
   walk_at "r"
   refine K9 (ds:=AB st) rfl (CK _) ?_
   refine⟨_,rfl,rfl,rfl,fun _=>?_⟩
   walk_at "r"
   exact⟨rfl,rfl⟩
 rw[a9X,LG]
 walk_at "wks"
 refine DQ (fun ρ1 M1=>∃F:List Nat,LwI (tcN (dsL ls)) ws (coN st ws) st F st.length/\M1=M.put q (.l (AB F))/\∃x5 x6 x7:Option DS,ρ1=[some (.d (AJ ls)),some (.d (.tuple (AB st))),some (.d (.tuple (AB ws))),some (.loc q),some (.d (.list (AB (coN st ws)))),x5,x6,x7]) ?_ ?_
 · refine G9 ?_
   refine B9 ?_
   walk_at "r"
   refine⟨fun i ρ1 M1=>∃F:List Nat,LwI (tcN (dsL ls)) ws (coN st ws) st F i/\M1=M.put q (.l (AB F))/\∃x5 x6 x7:Option DS,ρ1=[some (.d (AJ ls)),some (.d (.tuple (AB st))),some (.d (.tuple (AB ws))),some (.loc q),some (.d (.list (AB (coN st ws)))),x5,x6,x7],⟨_,LwI.start hs.inc,rfl,_,_,_,rfl⟩,?_,?_⟩
   · rintro i d ρ1 M1 hd ⟨F,hF,rfl,x5,x6,x7,rfl⟩
     obtain⟨k,hk,rfl⟩:=OJ hd
     have hkl:=hs.lt k (yN hk)
     obtain⟨l,hlk,hlm,hll,hld⟩:=IN hkl
     have hFl:F.length<=50:=zN (hF.len hs.inc) (by omega)
     have hstep:=hF.step hs.inc hk
     walk_at "r"
     refine AF (AN 0) (by simp[G2]) ?_
     refine B3 ?_
     walk_at "r"
     refine ZZ (as:=AB F) (bs:=AB (coN st ws)) zU (by rw[AH,AH];exact zN (show _<=100 by omega) (by decide)) ?_
     rw[eF]
     refine⟨_,rfl,by rw[AH,yY];exact zQ (show _<=100 by omega) (by decide),qE k,id,?_,?_⟩
     · intro d hd M'
       obtain⟨i,hi,rfl⟩:=zL.mp hd
       walk_at "dl"
       refine⟨rfl,?_⟩
       walk_at "r"
       refine⟨rfl,rfl,fun _=>?_⟩
       walk_at "r"
       exact⟨rfl,rfl⟩
     rw[WT]
     have hBl:(((F++coN st ws).filter fun m=>decide (m < k))).length<=100:=zN (yJ _ _) (by rw[yY];omega)
     have hBm:∀m∈((F++coN st ws).filter fun m=>decide (m < k)),m < ls.length:=fun m hm=>by
       rcases yW.mp (yL.mp hm).1 with z | z
       · exact hs.lt m (hF.sub m z)
       · exact hw.lt m (yL.mp z).1
     walk_at "r"
     refine AF (AN 0) (by simp[G4]) ?_
     refine B3 ?_
     walk_at "r"
     refine⟨by rw[AH];exact zQ hBl (by decide),fun _=>true,kJ (tcN (dsL ls)) k,?_,?_⟩
     · intro d hd M'
       obtain⟨i,hi,rfl⟩:=zL.mp hd
       obtain⟨m,hm,rfl⟩:=BD.mp hi
       obtain⟨l2,hlk2,hlm2,hll2,hld2⟩:=IN (hBm m hm)
       walk_at "dl"
       refine⟨rfl,?_⟩
       walk_at "dl"
       refine⟨rfl,rfl,fun _=>?_⟩
       walk_at "r"
       refine AC (ds:=ls.map BY) (AD hll) ?_
       walk_at "r"
       refine AC (ds:=[.str l.1,l.2.d]) (d:=l.2.d) rfl ?_
       walk_at "r"
       refine AC (ds:=ls.map BY) (AD hll2) ?_
       walk_at "r"
       refine AC (ds:=[.str l2.1,l2.2.d]) (d:=l2.2.d) rfl ?_
       walk_at "r"
       refine SK (hg.real l hlm) (hg.real l2 hlm2) ?_
       refine⟨?_,rfl⟩
       show DS.d (.bool (C0 l.2.d l2.2.d)) = .d (.bool (tcN (dsL ls) m k))
       rw[kI hld2 hld,UB]
     rw[aB]
     walk_at "r"
     refine e9 (ds:=AB F) zU rfl (LV _) ?_
     rw[if_pos rfl,HX]
     have keep:(if (!decide (k∈F)&&(((F++coN st ws).filter fun m=>decide (m < k)).any fun m=>tcN (dsL ls) m k))=true then F++[k] else F)=F->LwI (tcN (dsL ls)) ws (coN st ws) st F (i+1):=fun e=>by rw[e] at hstep;exact hstep
     cases hkF:decide (k∈F) with
     | true=>
       walk_at "r"
       exact⟨F,keep (by rw[hkF];rfl),rfl,_,_,_,rfl⟩
     | false=>
       walk_at "r"
       refine c6 ?_
       rw[WU]
       cases hany:(((F++coN st ws).filter fun m=>decide (m < k)).any fun m=>tcN (dsL ls) m k) with
       | false=>
         walk_at "r"
         exact⟨F,keep (by rw[hkF,hany];rfl),rfl,_,_,_,rfl⟩
       | true=>
         walk_at "r"
         refine Q2 ?_
         walk_at "dl"
         refine⟨K0 (ds:=AB F) zU,?_⟩
         walk_at "r"
         refine FJ (ds:=AB F) zU (by rw[AH];exact zQ hFl (by decide)) ?_
         rw[yI,LD]
         rw[hkF,hany] at hstep
         exact⟨F++[k],hstep,rfl,_,_,_,rfl⟩
   · rintro ρ1 M1 ⟨F,hF,rfl,x5,x6,x7,rfl⟩
     rw[AH] at hF
     exact⟨F,hF,rfl,_,_,_,rfl⟩
 · rintro ρ1 M1 ⟨F,hF,rfl,x5,x6,x7,rfl⟩
   have hFl:F.length<=50:=zN (hF.len hs.inc) (by omega)
   refine Q3 (i:=3) rfl zU ?_
   rw[yG hq]
   walk_at "r"
   refine UO (ss:=CB F) (by unfold CB;rw[zX];omega) fun ss hp2 hs2=>?_
   rw[hF.done hs.inc hp2 hs2]
   refine⟨M,zT M,fun ls' st' ws' e=>?_⟩
   simp only[List.cons.injEq,DS.d.injEq,PyData.tuple.injEq,and_true] at e
   have e1:=E8 e.1
   have e2:st=st':=N4 e.2.1
   have e3:ws=ws':=N4 e.2.2
   subst e1 e2 e3
   exact⟨rfl,rfl⟩
end
def KS:List Str:=["_law_lines", "_law_pack", "_law_pick", "_law_one", "_law_bits", "_law_other"]
def IH:List Str:=["_law_number"]
def EO:List (Option Nat):=[none]
theorem OY:IH.Nodup:=by decide +kernel
theorem KU:FnScope KS ["_law_lines", "_law_pack"] (AA DO):=⟨rfl,rfl,rfl,by decide +kernel,rfl,by decide +kernel,by decide +kernel⟩
section
local macro_rules | `(tactic| walk_at "cs")=>`(tactic| first | exact @DJ _ _ IH EO (AA DO) KS (by decide +kernel) (by decide +kernel) rfl rfl)
local macro_rules | `(tactic| walk_at "x")=>`(tactic| first | ((with_reducible show PE _ (.BinOp _ .Mult ..) _);exact @IS _ _ _ _ _ _ _ _ (@nD _ K rfl) (by walk_at "e") (by walk_at "e")) | ((with_reducible show PE _ (.Call (.Name (a0Q "tuple") _) ..) _);exact @ZQ _ _ _ _ _ _ _ (by walk_at "a") hr.hd rfl n_range rfl n_tuple (by rfl) (by rfl)) | ((with_reducible show PE _ (.Subscript _ (.Slice none none (some _) _) _) _);exact @qZ _ K _ _ _ _ _ _ rfl (by walk_at "e") (by walk_at "e")))
theorem T3 {f:Addr}{fd:FuncData}(F:Fun K "_law_pair" "_law_pair" DO f fd) (n_len:mg "len"=none) (n_range:mg "range"=none) (n_sum:mg "sum"=none) (n_tuple:mg "tuple"=none) (h__law_stand:Has P w K mg base "_law_stand" 3 ["_law_lines", "_law_bits"] FT) (h__law_take:Has P w K mg base "_law_take" 1 ["_law_pack", "_law_size"] B7):FnOk P w K mg base CX0 4 f fd ["_law_lines", "_law_pack"] (spD K 2 FU):=by
 refine fnD F KU fun cdv A outer s H E hr=>?_
 have hu:=hr.units
 have nd:=KU.nd
 have n0:=OY
 refine⟨_,by walk_at "b2", ?_⟩
 clear nd n0
 rintro xs M hl ⟨p,o,ls,rfl,m,ho,hg⟩
 have hfew:=hg.few
 have fin:∀{st ws:List Nat}{o':MO},isSt ls st->isSt ls ws->BJ o'->∃M2:Own,M2.Sub (M.put p o')/\FU.post [.d (AJ ls),.loc p] M (.d (.tuple [chD st,chD ws])) M2:=fun {st ws o'} h1 h2 h3=>⟨_,zT _,fun p' ls' e=>by
   simp only[List.cons.injEq,DS.loc.injEq,DS.d.injEq,PyData.tuple.injEq,and_true] at e
   have e1:=E8 e.1
   have e2:=e.2
   subst e1 e2
   exact⟨st,ws,o',rfl,h1,h2,h3,rfl⟩⟩
 walk_at "r"
 refine AX m ho (by decide) (by decide) fun v o1 v0 v1 ho1=>?_
 walk_at "r"
 refine AX zU ho1 (by decide) (by decide) fun v2 o2 _ _ ho2=>?_
 rw[yI]
 walk_at "r"
 refine E4 hg fun st hs=>?_
 walk_at "r"
 refine AX zU ho2 (by decide) (by decide) fun v3 o3 _ _ ho3=>?_
 rw[yI]
 walk_at "r"
 refine AX zU ho3 (by decide) (by decide) fun v4 o4 _ _ ho4=>?_
 rw[yI]
 walk_at "r"
 refine E4 hg fun ws hw=>?_
 refine DQ (fun ρ1 M1=>∃(st ws:List Nat) (x4:Option DS),isSt ls st/\isSt ls ws/\M1=M.put p o4/\ρ1=[some (.d (AJ ls)),some (.loc p),some (.d (.int v)),some (.d (chD st)),x4,some (.d (chD ws))]) ?_ ?_
 · skip
   walk_at "r"
   refine AU rfl rfl ?_
   rw[if_neg nft,E3]
   cases decide (v=1) with
   | false=>
     walk_at "r"
     exact⟨st,ws,_,hs,hw,rfl,rfl⟩
   | true=>
     walk_at "r"
     refine ZR ?_
     walk_at "r"
     refine IJ ?_
     rw[zX]
     walk_at "r"
     refine⟨by omega,?_⟩
     rw[show b9X ((a0J ls.length).map fun i:Nat=>a4W i)=chD (a0J ls.length) by unfold chD CB;rw[zD];rfl]
     exact⟨_,ws,_,isSt.all ls,hw,rfl,rfl⟩
 rintro ρ1 M1 ⟨st,ws,x4,hs,hw,rfl,rfl⟩
 refine DQ (fun ρ1 M1=>∃(st ws:List Nat) (x4:Option DS),isSt ls st/\isSt ls ws/\M1=M.put p o4/\ρ1=[some (.d (AJ ls)),some (.loc p),some (.d (.int v)),some (.d (chD st)),x4,some (.d (chD ws))]) ?_ ?_
 · skip
   walk_at "r"
   refine AU rfl rfl ?_
   rw[if_neg nft,E3]
   cases decide (v=2) with
   | false=>
     walk_at "r"
     exact⟨st,ws,_,hs,hw,rfl,rfl⟩
   | true=>
     walk_at "r"
     exact⟨st,[],_,hs,isSt.nil ls,rfl,rfl⟩
 rintro ρ1 M1 ⟨st,ws,x4,hs,hw,rfl,rfl⟩
 refine DQ (fun ρ1 M1=>∃(st ws:List Nat) (x4:Option DS),isSt ls st/\isSt ls ws/\M1=M.put p o4/\ρ1=[some (.d (AJ ls)),some (.loc p),some (.d (.int v)),some (.d (chD st)),x4,some (.d (chD ws))]) ?_ ?_
 · skip
   walk_at "r"
   refine AU rfl rfl ?_
   rw[if_neg nft,E3]
   cases decide (v=3) with
   | false=>
     walk_at "r"
     exact⟨st,ws,_,hs,hw,rfl,rfl⟩
   | true=>
     walk_at "r"
     obtain⟨κ,eκ,hκm,hκl⟩:=fA st
     have hκ:∀k∈κ,k < ls.length:=fun k hk=>hs.lt k (hκm k hk)
     have hsl:=hs.len
     refine AF (AN 0) (by simp[EO]) ?_
     refine B9 ?_
     refine nX ?_
     walk_at "r"
     refine⟨rfl,?_⟩
     rw[eκ]
     refine⟨_,rfl,?_⟩
     refine⟨by rw[AH];exact zQ (show _<=50 by omega) (by decide),fun _=>true,o0,?_,?_⟩
     · intro d hd M'
       obtain⟨i,hi,rfl⟩:=zL.mp hd
       obtain⟨k,hk,rfl⟩:=BD.mp hi
       have hkl:=hκ k hk
       walk_at "dl"
       refine⟨rfl,?_⟩
       walk_at "dl"
       refine⟨rfl,rfl,fun _=>?_⟩
       walk_at "r"
       refine XF ⟨by omega,by omega,by decide⟩ ?_
       exact⟨rfl,rfl⟩
     rw[V0]
     walk_at "r"
     refine dJ ?_
     walk_at "r"
     refine E4 hg fun ws2 hw2=>?_
     walk_at "r"
     exact⟨st,ws2,_,hs,hw2,rfl,rfl⟩
 rintro ρ1 M1 ⟨st,ws,x4,hs,hw,rfl,rfl⟩
 refine DQ (fun ρ1 M1=>∃(st ws:List Nat) (x4:Option DS),isSt ls st/\isSt ls ws/\M1=M.put p o4/\ρ1=[some (.d (AJ ls)),some (.loc p),some (.d (.int v)),some (.d (chD st)),x4,some (.d (chD ws))]) ?_ ?_
 · skip
   walk_at "r"
   refine AU rfl rfl ?_
   rw[if_neg nft,E3]
   cases decide (v=4) with
   | false=>
     walk_at "r"
     exact⟨st,ws,_,hs,hw,rfl,rfl⟩
   | true=>
     walk_at "r"
     have hsl:=hw.len
     have hκ:∀k∈ws.drop 1,k < ls.length:=fun k hk=>hw.lt k (b0J hk)
     rw[show chD ws = .tuple (AB ws) from rfl]
     walk_at "r"
     refine AF (AN 0) (by simp[EO]) ?_
     refine B9 ?_
     walk_at "r"
     refine HN ?_
     rw[QM]
     refine⟨_,rfl,?_⟩
     refine⟨by rw[AH];exact zQ (show _<=50 by rw[a3V];omega) (by decide),fun _=>true,o0,?_,?_⟩
     · intro d hd M'
       obtain⟨i,hi,rfl⟩:=zL.mp hd
       obtain⟨k,hk,rfl⟩:=BD.mp hi
       have hkl:=hκ k hk
       walk_at "dl"
       refine⟨rfl,?_⟩
       walk_at "dl"
       refine⟨rfl,rfl,fun _=>?_⟩
       walk_at "r"
       refine XF ⟨by omega,by omega,by decide⟩ ?_
       exact⟨rfl,rfl⟩
     rw[V0]
     walk_at "r"
     refine dJ ?_
     walk_at "r"
     refine E4 hg fun st2 hs2=>?_
     walk_at "r"
     exact⟨st2,ws,_,hs2,hw,rfl,rfl⟩
 rintro ρ1 M1 ⟨st,ws,x4,hs,hw,rfl,rfl⟩
 walk_at "r"
 exact fin hs hw ho4
end
def oB:List Str:=["_law_script", "_law_cells", "_law_book_here", "_law_kept", "_law_cell", "_law_pack", "_law_turn", "_law_one", "_law_other", "_law_due"]
theorem fK:FnScope oB ["_law_script"] (AA YB):=⟨rfl,rfl,rfl,by decide +kernel,rfl,by decide +kernel,by decide +kernel⟩
section
local macro_rules | `(tactic| walk_at "x")=>`(tactic| first | ((with_reducible show PS _ (.Assign [.Tuple ..] ..) _);exact @VG _ _ _ _ _ _ (by walk_at "e") (by walk_at "g") (by rfl) (by rfl) (by rfl)) | ((with_reducible show PG _ (.Tuple ..) _);exact @cR _ K _ _ _ _ (2) rfl rfl (by walk_at "j") (by rfl) (by rfl)))
local macro_rules | `(tactic| walk_at "y")=>`(tactic| first | ((with_reducible show PE _ (.Call (.Name (a0Q "list") _) ..) _);exact @KW _ _ _ _ _ _ _ _ _ (@pP _ K rfl) (by rfl) n_list b5K (by walk_at "a") (by decide) (by decide) (by rfl) (by rfl)))
theorem oD {f:Addr}{fd:FuncData}(F:Fun K "law" "law" YB f fd) (n_list:mg "list"=none) (n_range:mg "range"=none) (n_tuple:mg "tuple"=none) (h__law_alike:Has P w K mg base "_law_alike" 2 ["_law_found", "_law_due"] CM) (h__law_book:Has P w K mg base "_law_book" 3 ["_law_head", "_law_cells"] IC) (h__law_lifted:Has P w K mg base "_law_lifted" 3 ["_law_lines", "_law_stand_here", "_law_wished"] DK) (h__law_mixed:Has P w K mg base "_law_mixed" 1 ["_law_cell"] BQ) (h__law_pair:Has P w K mg base "_law_pair" 4 ["_law_lines", "_law_pack"] FU) (h_lifted:Has P w K mg base "lifted" 7 ["book", "stand", "wished"] BL):FnOk P w K mg base CX0 8 f fd ["_law_script"] (spD K 1 UD):=by
 refine fnD F fK fun cdv A outer s H E hr=>?_
 have hu:=hr.units
 have nd:=fK.nd
 refine⟨_,by walk_at "b2", ?_⟩
 clear nd
 rintro xs M hl ⟨ns,rfl,hns,hbits⟩
 have sz:∀m:Nat,m<=200->m<=sizeLine:=fun m h=>zN h (by decide)
 walk_at "r"
 refine fE ?_
 walk_at "wkd"
 refine HM (sz _ (by rw[zX];simp;omega)) ?_
 rw[show ns.map a4W++[.int 0,.int 0,.int 0]=(ns++[0,0,0]).map .int by rw[xI];rfl]
 have hb2:∀c∈ns++[0,0,0],xJ c<=2 ^ 21:=fun c hc=>by
   rcases yW.mp hc with h | h
   · exact zN (hbits c h) (by decide)
   · simp at h;subst h;decide
 obtain⟨c0,hc0,ec0⟩:∃c0,c0∈ns++[0,0,0]/\((ns++[0,0,0]).map a4W)[0]?=some (.int c0):=by
   cases ns with
   | nil=>exact⟨0,by simp,rfl⟩
   | cons a r=>exact⟨a,by simp,rfl⟩
 walk_at "r"
 refine BO (ds:=(ns++[0,0,0]).map .int) (d:=.int c0) (AD (j:=0) ec0) ?_
 walk_at "r"
 refine CY ?_
 rw[show CT (ns.map a4W) (some 3) (some 43)=((ns.take 43).drop 3).map .int from(MY _ 3 43).trans (by rw[a9V,List.map_take])]
 walk_at "r"
 refine UX (hb2 c0 hc0) (fun c hc=>zN (hbits c (a5V (b0J hc))) (by decide)) (by rw[a3V,a2X];omega) fun w ls hg hw=>?_
 have hfew:=hg.few
 have sd:zH (AW w ls)=true:=ZV hw hg
 walk_at "r"
 refine AC (ds:=[wD w,AJ ls]) (d:=wD w) rfl ?_
 rw[show wD w = .tuple (w.map thD) from rfl]
 walk_at "r"
 refine TM ?_
 walk_at "r"
 refine ER ?_
 walk_at "r"
 refine AC (ds:=[wD w,AJ ls]) (d:=AJ ls) rfl ?_
 walk_at "r"
 refine TM ?_
 walk_at "r"
 refine ER ?_
 walk_at "r"
 rw[show b9X [.tuple (w.map thD),.tuple (ls.map BY)]=AW w ls from rfl]
 · refine G9 ?_
   refine B3 ?_
   walk_at "r"
   refine CY ?_
   have hcut:CT (List.map a4W (ns++[0,0,0])) (some 1) (some 3)=List.map a4W (((ns++[0,0,0]).take 3).drop 1):=(MY _ 1 3).trans (by rw[a9V,List.map_take])
   rw[hcut]
   refine⟨_,rfl,fun k ρ1 M1=>M.Sub M1/\∃(x4 x5 x6 x7 x8 x9:Option DS),ρ1=[some (.d (.list (ns.map .int))),some (.d (.list ((ns++[0,0,0]).map .int))),some (.d (AW w ls)),some (.d (AW w ls)),x4,x5,x6,x7,x8,x9],⟨zT M,_,_,_,_,_,_,rfl⟩,?_,?_⟩
   · rintro k d ρ1 M1 hd ⟨hsub,x4,x5,x6,x7,x8,x9,rfl⟩
     obtain⟨c,hc,rfl⟩:∃c,c∈ns++[0,0,0]/\d = .int c:=by
       obtain⟨c,hc,rfl⟩:=zL.mp (yN hd)
       exact⟨c,a5V (b0J hc),rfl⟩
     walk_at "r"
     refine II ?_
     walk_at "r"
     refine JO (hb2 c hc) fun v=>?_
     walk_at "r"
     intro q hq
     refine G9 ?_
     refine G8 ?_
     walk_at "r"
     refine⟨by decide,by decide,?_⟩
     refine⟨fun j ρ1 M2=>(∃o,BJ o/\M2=M1.put q o)/\∃(x6 x7 x8 x9:Option DS),ρ1=[some (.d (.list (ns.map .int))),some (.d (.list ((ns++[0,0,0]).map .int))),some (.d (AW w ls)),some (.d (AW w ls)),some (.d (.int c)),some (.loc q),x6,x7,x8,x9],⟨⟨_,⟨v,rfl⟩,rfl⟩,_,_,_,_,rfl⟩,?_,?_⟩
     · rintro j d ρ1 M2 hd2 ⟨⟨o,ho,rfl⟩,x6,x7,x8,x9,rfl⟩
       walk_at "r"
       refine RT ?_
       walk_at "r"
       refine AC (ds:=[wD w,AJ ls]) (d:=AJ ls) rfl ?_
       walk_at "r"
       refine UW zU ho hg.any fun st ws o2 hs hw2 ho2=>?_
       rw[yI]
       have hlf:(lfB ls st ws).length<=50:=zN HY.length_le (zN hs.len hfew)
       walk_at "r"
       refine AC (ds:=[wD w,AJ ls]) (d:=AJ ls) rfl ?_
       walk_at "r"
       refine SL hg.any hs hw2 ?_
       walk_at "r"
       refine ER ?_
       walk_at "r"
       rw[show b9X (AB (lfB ls st ws))=chD (lfB ls st ws) from rfl]
       refine D7 hg hs hw2 ?_
       walk_at "r"
       refine GL hlf ?_
       walk_at "r"
       refine D7 hg hs hs ?_
       rw[eU]
       walk_at "r"
       refine GL (c:=[]) (by simp) ?_
       walk_at "r"
       refine D7 hg hs hw2 ?_
       walk_at "r"
       refine GL hlf ?_
       walk_at "r"
       refine AU sd sd ?_
       rw[if_pos rfl,e8 sd]
       walk_at "r"
       exact⟨⟨o2,ho2,rfl⟩,_,_,_,_,rfl⟩
     · rintro ρ1 M2 ⟨⟨o,ho,rfl⟩,x6,x7,x8,x9,rfl⟩
       refine⟨fun b ob e=>?_,_,_,_,_,_,_,rfl⟩
       rw[yH (by rintro rfl;rw[hsub b ob e] at hq;cases hq)]
       exact hsub b ob e
   · rintro ρ1 M1 h
     walk_at "r"
     exact⟨M1,zT _,rfl⟩
end
end
end DL
namespace DL
open PySem PySem.Spec L2
local macro_rules | `(tactic| walk_at "b1")=>`(tactic| exact fun _ _ _ _ _ _ us hl=>match us,hl with | [_],_=>rfl)
local macro_rules | `(tactic| walk_at "b2")=>`(tactic| exact fun _ _ _ _ _ _ us hl=>match us,hl with | [_,_],_=>rfl)
local macro_rules | `(tactic| walk_at "b3")=>`(tactic| exact fun _ _ _ _ _ _ us hl=>match us,hl with | [_,_,_],_=>rfl)
theorem oE {l:PySem.W.OpenLaw}{w:World}{K:Frg}{h:Heap}{mg:Str->Option Value}{fa:Addr}{a_ADDING:Addr}{ep_ADDING:Nat}{tk_ADDING_0:Tok}{tk_ADDING_1:Tok}{tk_ADDING_2:Tok}{a_FORMS:Addr}{ep_FORMS:Nat}{tk_FORMS_0 tv_FORMS_0:Tok}{tk_FORMS_1 tv_FORMS_1:Tok}{tk_FORMS_2 tv_FORMS_2:Tok}{tk_FORMS_3 tv_FORMS_3:Tok}{tk_FORMS_4 tv_FORMS_4:Tok}{tk_FORMS_5 tv_FORMS_5:Tok}{tk_FORMS_6 tv_FORMS_6:Tok}
   (X:K.In h) (G:h.Ns mainGlobals mg) (hfa:mg "law"=some (.ref fa))
   (b0:FnIn K "is_whole" GM)
   (b1:FnIn K "is_within" EW)
   (b2:FnIn K "rises" KC)
   (b3:FnIn K "form_of" IQ)
   (b4:FnIn K "names_in" GN)
   (b5:FnIn K "made_by" IR)
   (b6:FnIn K "must_stand" CN)
   (b7:FnIn K "deeds_of" EH)
   (b8:FnIn K "makers" FV)
   (b9:FnIn K "is_number" EX)
   (b10:FnIn K "needs" KB)
   (b11:FnIn K "is_stand" D3)
   (b12:FnIn K "refuse_no_stand" BG)
   (b13:FnIn K "use_of" KD)
   (b14:FnIn K "may_share" EY)
   (b15:FnIn K "touch" KF)
   (b16:FnIn K "lifts_by_ends" B5)
   (b17:FnIn K "lifted_between" BR)
   (b18:FnIn K "lifted" KG)
   (b19:FnIn K "_law_mixed" E5)
   (b20:FnIn K "_law_take" EZ)
   (b21:FnIn K "_law_names" BS)
   (b22:FnIn K "_law_deed" DN)
   (b23:FnIn K "_law_after" BU)
   (b24:FnIn K "_law_start" CO)
   (b25:FnIn K "_law_book" F0)
   (b26:FnIn K "_law_must" F3)
   (b27:FnIn K "_law_made" F4)
   (b28:FnIn K "_law_needs" CP)
   (b29:FnIn K "_law_stand" CQ)
   (b30:FnIn K "_law_kinds" CS)
   (b31:FnIn K "_law_touch" E6)
   (b32:FnIn K "_law_alike" BV)
   (b33:FnIn K "_law_lifted" B2)
   (b34:FnIn K "_law_pair" DO)
   (b35:FnIn K "law" YB)
   (z_all:a2Z K mainGlobals "all"=some none)
   (z_any:a2Z K mainGlobals "any"=some none)
   (z_bool:a2Z K mainGlobals "bool"=some none)
   (z_divmod:a2Z K mainGlobals "divmod"=some none)
   (z_enumerate:a2Z K mainGlobals "enumerate"=some none)
   (z_int:a2Z K mainGlobals "int"=some none)
   (z_isinstance:a2Z K mainGlobals "isinstance"=some none)
   (z_len:a2Z K mainGlobals "len"=some none)
   (z_list:a2Z K mainGlobals "list"=some none)
   (z_range:a2Z K mainGlobals "range"=some none)
   (z_sorted:a2Z K mainGlobals "sorted"=some none)
   (z_str:a2Z K mainGlobals "str"=some none)
   (z_sum:a2Z K mainGlobals "sum"=some none)
   (z_tuple:a2Z K mainGlobals "tuple"=some none)
   (z_zip:a2Z K mainGlobals "zip"=some none)
   (y_ADDING:a2Z K mainGlobals "ADDING"=some (some (.ref a_ADDING)))
   (x_ADDING:K.lookup a_ADDING=some { cls:=.type "tuple", data:=.seq #[.str (a0Q "count") tk_ADDING_0,.str (a0Q "split") tk_ADDING_1,.str (a0Q "join") tk_ADDING_2] ep_ADDING })
   (y_FORMS:a2Z K mainGlobals "FORMS"=some (some (.ref a_FORMS)))
   (x_FORMS:K.lookup a_FORMS=some { cls:=.type "dict", data:=.dict #[{ hash:=a7W w.params (a0Q "put"),key:=.str (a0Q "put") tk_FORMS_0,val:=.str (a0Q "npk") tv_FORMS_0 },{ hash:=a7W w.params (a0Q "take"),key:=.str (a0Q "take") tk_FORMS_1,val:=.str (a0Q "n") tv_FORMS_1 },{ hash:=a7W w.params (a0Q "move"),key:=.str (a0Q "move") tk_FORMS_2,val:=.str (a0Q "np") tv_FORMS_2 },{ hash:=a7W w.params (a0Q "count"),key:=.str (a0Q "count") tk_FORMS_3,val:=.str (a0Q "nk") tv_FORMS_3 },{ hash:=a7W w.params (a0Q "name"),key:=.str (a0Q "name") tk_FORMS_4,val:=.str (a0Q "nn") tv_FORMS_4 },{ hash:=a7W w.params (a0Q "split"),key:=.str (a0Q "split") tk_FORMS_5,val:=.str (a0Q "nnpk") tv_FORMS_5 },{ hash:=a7W w.params (a0Q "join"),key:=.str (a0Q "join") tk_FORMS_6,val:=.str (a0Q "nn") tv_FORMS_6 }] ep_FORMS })
   (s_FORMS:(a_FORMS==sysModules)=false) :
   ∃fd:FuncData,(∀(s:Shared) (v:Value),BindsTo s fd ⟨[v],[]⟩ [("_law_script", v)])/\∀base:Heap,K.In base->base.Ns mainGlobals mg->FnOk l.prog w K mg base CX0 8 fa fd ["_law_script"] (spD K 1 UD):=by
 obtain⟨f0,d0,A0⟩:=b0.at X G
 obtain⟨f1,d1,A1⟩:=b1.at X G
 obtain⟨f2,d2,A2⟩:=b2.at X G
 obtain⟨f3,d3,A3⟩:=b3.at X G
 obtain⟨f4,d4,A4⟩:=b4.at X G
 obtain⟨f5,d5,A5⟩:=b5.at X G
 obtain⟨f6,d6,A6⟩:=b6.at X G
 obtain⟨f7,d7,A7⟩:=b7.at X G
 obtain⟨f8,d8,A8⟩:=b8.at X G
 obtain⟨f9,d9,A9⟩:=b9.at X G
 obtain⟨f10,d10,A10⟩:=b10.at X G
 obtain⟨f11,d11,A11⟩:=b11.at X G
 obtain⟨f12,d12,A12⟩:=b12.at X G
 obtain⟨f13,d13,A13⟩:=b13.at X G
 obtain⟨f14,d14,A14⟩:=b14.at X G
 obtain⟨f15,d15,A15⟩:=b15.at X G
 obtain⟨f16,d16,A16⟩:=b16.at X G
 obtain⟨f17,d17,A17⟩:=b17.at X G
 obtain⟨f18,d18,A18⟩:=b18.at X G
 obtain⟨f19,d19,A19⟩:=b19.at X G
 obtain⟨f20,d20,A20⟩:=b20.at X G
 obtain⟨f21,d21,A21⟩:=b21.at X G
 obtain⟨f22,d22,A22⟩:=b22.at X G
 obtain⟨f23,d23,A23⟩:=b23.at X G
 obtain⟨f24,d24,A24⟩:=b24.at X G
 obtain⟨f25,d25,A25⟩:=b25.at X G
 obtain⟨f26,d26,A26⟩:=b26.at X G
 obtain⟨f27,d27,A27⟩:=b27.at X G
 obtain⟨f28,d28,A28⟩:=b28.at X G
 obtain⟨f29,d29,A29⟩:=b29.at X G
 obtain⟨f30,d30,A30⟩:=b30.at X G
 obtain⟨f31,d31,A31⟩:=b31.at X G
 obtain⟨f32,d32,A32⟩:=b32.at X G
 obtain⟨f33,d33,A33⟩:=b33.at X G
 obtain⟨f34,d34,A34⟩:=b34.at X G
 obtain⟨f35,d35,A35⟩:=b35.at X G
 have e:=hfa.symm.trans A35.mg_
 cases e
 have n_all:=a1J X G z_all
 have n_any:=a1J X G z_any
 have n_bool:=a1J X G z_bool
 have n_divmod:=a1J X G z_divmod
 have n_enumerate:=a1J X G z_enumerate
 have n_int:=a1J X G z_int
 have n_isinstance:=a1J X G z_isinstance
 have n_len:=a1J X G z_len
 have n_list:=a1J X G z_list
 have n_range:=a1J X G z_range
 have n_sorted:=a1J X G z_sorted
 have n_str:=a1J X G z_str
 have n_sum:=a1J X G z_sum
 have n_tuple:=a1J X G z_tuple
 have n_zip:=a1J X G z_zip
 have g_ADDING:mg "ADDING"=some (.ref a_ADDING)/\nC K a_ADDING ["count", "split", "join"]:=⟨PySem.W.mg_of X G y_ADDING,_,_,x_ADDING,by show 3<=sizeLine;decide,.cons _ _ (.cons _ _ (.cons _ _ (.nil)))⟩
 have g_FORMS:∃a,mg "FORMS"=some (.ref a)/\GDict w K a LS:=⟨_,PySem.W.mg_of X G y_FORMS,s_FORMS,by decide +kernel,_,_,x_FORMS,rfl,⟨_,rfl⟩,⟨_,rfl⟩,rfl,⟨_,rfl⟩,⟨_,rfl⟩,rfl,⟨_,rfl⟩,⟨_,rfl⟩,rfl,⟨_,rfl⟩,⟨_,rfl⟩,rfl,⟨_,rfl⟩,⟨_,rfl⟩,rfl,⟨_,rfl⟩,⟨_,rfl⟩,rfl,⟨_,rfl⟩,⟨_,rfl⟩,trivial⟩
 refine⟨d35,fun s v=>?_,fun base _ _=>?_⟩
 · obtain⟨oc,od,kV,doc,pm,an,cdv,ct,osl,e,_,_⟩:=A35.fn.ex
   subst e
   exact .of_eq rfl
 have h_is_whole:Has l.prog w K mg base "is_whole" 1 ["thing"] JL:=A0.has (V2 A0.fn n_bool n_int n_isinstance) (by walk_at "b1")
 have h_is_within:Has l.prog w K mg base "is_within" 2 ["thing", "low", "high"] DB:=A1.has (SN A1.fn h_is_whole) (by walk_at "b3")
 have h_rises:Has l.prog w K mg base "rises" 1 ["things"] FP:=A2.has (fI A2.fn n_all n_zip) (by walk_at "b1")
 have h_form_of:Has l.prog w K mg base "form_of" 1 ["word"] L7:=A3.has (WW A3.fn n_isinstance n_str g_FORMS) (by walk_at "b1")
 have h_names_in:Has l.prog w K mg base "names_in" 2 ["deed"] GF:=A4.has (V4 A4.fn h_form_of) (by walk_at "b1")
 have h_made_by:Has l.prog w K mg base "made_by" 1 ["deed"] IM:=A5.has (WY A5.fn ) (by walk_at "b1")
 have h_must_stand:Has l.prog w K mg base "must_stand" 3 ["deed"] GH:=A6.has (P6 A6.fn n_tuple h_made_by h_names_in) (by walk_at "b1")
 have h_deeds_of:Has l.prog w K mg base "deeds_of" 1 ["book"] D0:=A7.has (V5 A7.fn n_tuple) (by walk_at "b1")
 have h_makers:Has l.prog w K mg base "makers" 2 ["book"] HW:=A8.has (aF A8.fn n_enumerate h_deeds_of h_made_by) (by walk_at "b1")
 have h_is_number:Has l.prog w K mg base "is_number" 3 ["book", "thing"] C9:=A9.has (SQ A9.fn n_len h_is_within) (by walk_at "b2")
 have h_needs:Has l.prog w K mg base "needs" 4 ["book", "number"] K8:=A10.has (fH A10.fn n_sorted n_tuple h_is_number h_makers h_must_stand) (by walk_at "b2")
 have h_is_stand:Has l.prog w K mg base "is_stand" 5 ["book", "thing"] CL:=A11.has (VC A11.fn n_all n_isinstance n_tuple h_is_number h_needs h_rises) (by walk_at "b2")
 have h_refuse_no_stand:Has l.prog w K mg base "refuse_no_stand" 6 ["book", "thing"] EG:=A12.has (JR A12.fn h_is_stand) (by walk_at "b2")
 have h_use_of:Has l.prog w K mg base "use_of" 1 ["deed", "name"] O1:=A13.has (aH A13.fn g_ADDING) (by walk_at "b2")
 have h_may_share:Has l.prog w K mg base "may_share" 2 ["one", "other", "name"] HS:=A14.has (SS A14.fn h_use_of) (by walk_at "b3")
 have h_touch:Has l.prog w K mg base "touch" 3 ["one", "other"] RY:=A15.has (fJ A15.fn n_any h_may_share h_names_in) (by walk_at "b2")
 have h_lifts_by_ends:Has l.prog w K mg base "lifts_by_ends" 4 ["book", "stand", "wished"] FQ:=A16.has (LI A16.fn n_len n_list h_deeds_of h_touch) (by walk_at "b3")
 have h_lifted_between:Has l.prog w K mg base "lifted_between" 5 ["book", "stand", "wished"] BL:=A17.has (KL A17.fn n_sorted n_tuple h_lifts_by_ends) (by walk_at "b3")
 have h_lifted:Has l.prog w K mg base "lifted" 7 ["book", "stand", "wished"] BL:=A18.has (aJ A18.fn h_lifted_between h_refuse_no_stand) (by walk_at "b3")
 have h__law_mixed:Has l.prog w K mg base "_law_mixed" 1 ["_law_cell"] BQ:=A19.has (PF A19.fn ) (by walk_at "b1")
 have h__law_take:Has l.prog w K mg base "_law_take" 1 ["_law_pack", "_law_size"] B7:=A20.has (SU A20.fn n_divmod) (by walk_at "b2")
 have h__law_names:Has l.prog w K mg base "_law_names" 2 ["_law_pack", "_law_amount"] CG:=A21.has (PB A21.fn n_range h__law_take) (by walk_at "b2")
 have h__law_deed:Has l.prog w K mg base "_law_deed" 2 ["_law_pack", "_law_some", "_law_spare"] DD:=A22.has (SV A22.fn n_int n_len h__law_take) (by walk_at "b3")
 have h__law_after:Has l.prog w K mg base "_law_after" 1 ["_law_deed_here", "_law_some", "_law_spare"] CH:=A23.has (PH A23.fn ) (by walk_at "b3")
 have h__law_start:Has l.prog w K mg base "_law_start" 2 ["_law_pack", "_law_names_here", "_law_amount"] CI:=A24.has (PJ A24.fn n_range n_sorted n_tuple h__law_take) (by walk_at "b3")
 have h__law_book:Has l.prog w K mg base "_law_book" 3 ["_law_head", "_law_cells"] IC:=A25.has (SX A25.fn n_tuple h__law_after h__law_deed h__law_mixed h__law_names h__law_start h__law_take) (by walk_at "b2")
 have h__law_must:Has l.prog w K mg base "_law_must" 1 ["_law_deed_here"] CA:=A26.has (SZ A26.fn ) (by walk_at "b1")
 have h__law_made:Has l.prog w K mg base "_law_made" 1 ["_law_deed_here"] FR:=A27.has (T2 A27.fn ) (by walk_at "b1")
 have h__law_needs:Has l.prog w K mg base "_law_needs" 2 ["_law_lines"] FS:=A28.has (PK A28.fn n_len n_range h__law_made h__law_must) (by walk_at "b1")
 have h__law_stand:Has l.prog w K mg base "_law_stand" 3 ["_law_lines", "_law_bits"] FT:=A29.has (PL A29.fn n_all n_len n_range n_tuple h__law_needs) (by walk_at "b2")
 have h__law_kinds:Has l.prog w K mg base "_law_kinds" 1 ["_law_deed_here"] E9:=A30.has (PM A30.fn n_isinstance n_str) (by walk_at "b1")
 have h__law_touch:Has l.prog w K mg base "_law_touch" 2 ["_law_one", "_law_other"] EA:=A31.has (PP A31.fn n_sorted h__law_kinds) (by walk_at "b2")
 have h__law_alike0:Has l.prog w K mg base "_law_alike" 1 ["_law_found", "_law_due"] BZ:=A32.has (OW A32.fn n_bool n_isinstance n_tuple) (by walk_at "b2")
 have h__law_alike:Has l.prog w K mg base "_law_alike" 2 ["_law_found", "_law_due"] CM:=A32.has (PQ A32.fn n_all n_bool n_isinstance n_len n_tuple n_zip h__law_alike0) (by walk_at "b2")
 have h__law_lifted:Has l.prog w K mg base "_law_lifted" 3 ["_law_lines", "_law_stand_here", "_law_wished"] DK:=A33.has (OX A33.fn n_any n_sorted h__law_touch) (by walk_at "b3")
 have h__law_pair:Has l.prog w K mg base "_law_pair" 4 ["_law_lines", "_law_pack"] FU:=A34.has (T3 A34.fn n_len n_range n_sum n_tuple h__law_stand h__law_take) (by walk_at "b2")
 exact oD A35.fn n_list n_range n_tuple h__law_alike h__law_book h__law_lifted h__law_mixed h__law_pair h_lifted
theorem oF {K:Frg}{H:Hp}{a:Addr}{ns:List Int}(hl:ns.length<=63) (hb:∀i∈ns,xJ i<=2 ^ 20) (hS:SqL K H a (ns.map V.int)):spD K 1 UD [.ref a] H (fun v _=>v = .bl true) fun _ _ _=>False:=by
 refine⟨[.d (.list (ns.map .int))],fun _=>none,rfl,(fun a o e=>nomatch e),⟨.ref a,[],rfl,?_,rfl⟩,⟨ns,rfl,hl,hb⟩,fun x M' v H' post st oa si=>?_⟩
 · unfold SI DV
   refine⟨a,ns.map V.int,rfl,?_,DF⟩
   rcases hS with h | h
   · exact .inl ⟨fun w=>w rfl,h⟩
   · exact .inr h
 · have e:x = .d (.bool true):=post
   subst e
   exact jY si
theorem r8 {l:PySem.W.OpenLaw}{q:Program}{loose:List Str}{XP:(Str->Option Value)->Heap->Prop}{YP:World->Heap->Prop}{d:DefRec}{K:Params->Frg}(hn:l.most=some 63) (hdf:d.params.defaults=[])
   (hY:∀(w:World) (h:Heap),YP w h->(K w.params).In h)
   (F:∀(w:World) (mg:Str->Option Value) (fa:Addr) (h:Heap),(K w.params).In h->h.Ns mainGlobals mg->mg d.name=some (.ref fa) ->
     ∃fd:FuncData,(∀(s:Shared) (u:Value),BindsTo s fd ⟨[u],[]⟩ [("_law_script", u)])/\∀base:Heap,(K w.params).In base->base.Ns mainGlobals mg->FnOk l.prog w (K w.params) mg base CX0 8 fa fd ["_law_script"] (spD (K w.params) 1 UD)) :
   PySem.W.WalkO q loose XP YP l.row.toRowW d [] (fun f vs=>PySem.call f vs):=
 L2.cM (n:=63) (k:=8) (x:= "_law_script") (CX:=fun _=>CX0) (sp:=fun w=>spD (K w.params) 1 UD) hn (by decide) hdf ⟨rfl,by decide,by decide⟩ hY F (fun _ _ a ns hl hb _ hS=>oF hl hb hS) fun _ _ _ _ _ z=>z
end DL
open PySem PySem.W PyProof.Rows
set_option maxRecDepth 100000 in
set_option maxHeartbeats 0 in
theorem PySem.Challenge.cw_struckdeeds_k40_lifted_holds : PySem.Challenge.rw_struckdeeds_k40_lifted.Holds := by
 w_on
 refine PySem.W.holds_law DL.hS fun said=>?_
 refine PySem.W.holds_open (q:=DL.hV) (loose:=[a0Q "FORMS"]) (Xt:=(fun s=>PySem.W.xlAt DL.hV [] s&&PySem.W.recOk (b2X (b0Z (b2Z PySem.Challenge.rw_struckdeeds_k40_lifted))) s)) (XP:=PySem.W.XL DL.hV []) (Yf:=b5Q (a5W DL.hK DL.hA DL.hE)) (Ya:=b4V (a5W DL.hK DL.hA DL.hE)) (YP:=PySem.W.Hook.says (a5W DL.hK DL.hA DL.hE)) (N:=3872) DL.hL (PySem.W.Hook.of (a5W DL.hK DL.hA DL.hE)) (PySem.W.Hook.keeps (a5W DL.hK DL.hA DL.hE)) (fun s e=>PySem.W.xl_of s (Bool.and_eq_true_iff.mp e).1) PySem.W.XL.keeps (by rfl) (by rfl) (by rfl) (fun s e=>PySem.W.recFacts_of (Bool.and_eq_true_iff.mp e).2) rfl said (by decide +kernel) ⟨rfl,rfl,rfl,rfl,rfl,by decide +kernel⟩ ?hw ?hc
 (case hw=>w_witness2)
 k_fill
 refine DL.r8 (l:=PySem.Challenge.rw_struckdeeds_k40_lifted) rfl rfl (fun w h Y=>PySem.W.kIn_of Y) ?F
 case F=>
   intro w mg fa h KX G hmg
   refine' DL.oE KX G hmg ?b0 ?b1 ?b2 ?b3 ?b4 ?b5 ?b6 ?b7 ?b8 ?b9 ?b10 ?b11 ?b12 ?b13 ?b14 ?b15 ?b16 ?b17 ?b18 ?b19 ?b20 ?b21 ?b22 ?b23 ?b24 ?b25 ?b26 ?b27 ?b28 ?b29 ?b30 ?b31 ?b32 ?b33 ?b34 ?b35 ?z_all ?z_any ?z_bool ?z_divmod ?z_enumerate ?z_int ?z_isinstance ?z_len ?z_list ?z_range ?z_sorted ?z_str ?z_sum ?z_tuple ?z_zip ?y_ADDING ?x_ADDING ?y_FORMS ?x_FORMS ?s_FORMS
   all_goals (first | (refine' DL.jE ?fa ?fl ?fc ?fk;(case fa=>k_is);(case fl=>k_is);(case fc=>k_is);(case fk=>k_is)) | skip)
   (case z_all=>k_is)
   (case z_any=>k_is)
   (case z_bool=>k_is)
   (case z_divmod=>k_is)
   (case z_enumerate=>k_is)
   (case z_int=>k_is)
   (case z_isinstance=>k_is)
   (case z_len=>k_is)
   (case z_list=>k_is)
   (case z_range=>k_is)
   (case z_sorted=>k_is)
   (case z_str=>k_is)
   (case z_sum=>k_is)
   (case z_tuple=>k_is)
   (case z_zip=>k_is)
   (case y_ADDING=>k_is)
   (case x_ADDING=>k_is)
   (case y_FORMS=>k_is)
   (case x_FORMS=>k_is)
   (case s_FORMS=>decide)
#print axioms PySem.Challenge.cw_struckdeeds_k40_lifted_holds
