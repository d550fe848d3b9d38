import PyProof.Rows.All
import Wide.All
import OpenK.AllK
import Wide.FinOn
import Lean
import PyProof.EqAt
import PyProof.EqKinds
import PyProof.TupleCall
import KE.KRevIter
import PyProof.P3In
import PyProof.SumAnyB
import PyProof.NeKinds
import KE.KEqDict
import PyProof.ListRange
import PyProof.TupleOfSeq
import PyProof.Draws
import KE.KIsAll
import PySem.Challenge.RW_struckdeeds_k31_worlds_and_needs_of_book
set_option Elab.async false
set_option linter.all false
set_option maxRecDepth 100000
set_option compiler.extract_closed false
set_option maxHeartbeats 4000000
open PySem.Str renaming ofString → a0Q
open PySem.Value renaming ref → a0X, none → a1J, builtin → b5Q, int → b5W, type → b8Z, str → b8J
open PySem.PyData renaming eqv → a0Z, str → a1X, depthAll → a2X, depth → a4W, keyHash → a8W, tuple → a9V, int → b4X, strOk → b6V, canLay0 → b7X, canLayAll0 → b8Q
open PySem.Txt renaming slice → a0J
open Sum renaming inr → a0K, inl → c0Q
open PySem.W renaming mg_none_of → a0W, nsIn → a1Q, kia_one → a1W, kitOne → a3Q, keepIn → a3J, boot_heap → a3V, kHook → a5Z, fnOf → a6Q, topRun → a6K, findIn → a8K, segRunT → a9Z, mg_of → b0Q, piecesOf → b1X, segRun_of → b3X, restOf → b3V, codeIn → b4Q, boot_drawn → b6Q, piece_app → b7Z, boot_toks → b7J
open Bool renaming and_eq_true → a0V, eq_iff_iff → a8Z, false_eq_true → b3Q
open List renaming mem_cons_self → a1Z, contains_cons → a1K, range → a1V, replicate → a2Z, lookup_cons → a2J, length_take → a2V, drop_eq_nil_of_le → a3X, take_length → a3W, pairwise_map → a4Z, filterMap_cons → a4J, length_drop → a5X, filter_sublist → a5W, filter_cons → a6W, zip_cons_cons → a7X, pairwise_cons → a7Z, map_nil → a7J, getElem?_eq_none → a7K, getElem?_zip_eq_some → a7W, find?_cons → a7V, eq_of_mem_replicate → a8Q, append_nil → a8X, take_of_length_le → a9X, mem_singleton → a9W, length_replicate → b0J, length_nil → b0K, take_add_one → b0V, getElem?_set_ne → b1J, getElem_mem → b1V, all_eq_true → b2Q, replicate_succ → b2Z, length_set → b2W, any_cons → b2V, take_eq_take_iff → b4J, take_append_drop → b4K, mem_of_mem_take → b5Z, map_take → b5K, of_mem_zip → b6X, map_id → b6Z, length → b6J, length_zipIdx → b7V, getElem?_set → b9Q, ext_getElem? → b9X, append_assoc → b9Z, map_drop → b9V, any_eq_true → c0X
open Nat renaming add_le_add_left → a2Q, ne_of_gt → a5K, le_succ → a8V, le_add_right → a9Q, min_eq_left → b0W, lt_succ_of_lt → b1Q, add_le_add_right → b1K, min_eq_right → b5X
open PySem.Builtin.SmallTypes renaming nextOf → a2K, ownedTupleIsFree → a4V, ownedTupleHandOut → b7Q
open Option renaming some → a2W, none → b5J, isSome_map → b8X
open PySem.Builtin.Str renaming strSliceIndices → a3Z, occurrences → a5Q
open List.Sublist renaming refl → a3K
open PySem renaming mem_of_lookup → a4Q
open Array renaming length_toList → a4X, getElem?_toList → b0X, getD_eq_getD_getElem? → b5V, getElem?_eq_none → c0Z
open Int renaming toNat_natCast → a4K, zero_add → b2K, natCast_nonneg → b3W
open PySem.Heap renaming size_push → a5J, get?_update_self → a7Q
open PySem.NameKind renaming free → a5V
open PyProof.Rows renaming slot_tuple_getitem → a6X
open False renaming elim → a6Z
open True renaming intro → a6J
open PySem.Obj renaming mapSeq → a6V, data_mapFields → b3K
open Ne renaming symm → a8J
open PySem.F renaming slot_dict_get → a9J, slot_tuple_iterator_next → b1W, args_tuple_add_2 → b7K, plainAttrs_dict → b8K, entry_tuple_add → b8W, slot_tuple_add → b9J, entry_dict_get → b9K
open PySem.Builtin.Slice renaming slicePlaces → a9K, sliceAdjust → b4W
open PySem.Builtin.Tuple renaming tupleExact → b0Z
open PySem.W.OpenRow renaming toRowW → b1Z
open ForInStep renaming yield → b2X
open PySem.Spec renaming ltCps → b2J
open PySem.W.RowW renaming records → b3Z
open PySem.W.OpenLaw renaming row → b3J
open PySem.Calls renaming callWith_builtin → b4Z, evalArgs_plain → b4V, call_function_entry → b7W, spliced_nil → b8V
open PySem.W.Hook renaming val → b6K, obs → b6W
open PySem.Heap.SameBut renaming update → b9W
open PySem renaming wpAny_bind → zZ, wpAny_pure → zY, codeAny_mono → xN, wpAny_newObj_type → xM
open List renaming length_map → zX, getElem?_eq_getElem → zV, mem_map → zL, size_toArray → zJ, map_cons → zI, getElem?_map → zF, map_map → zD, mem_append_right → zB, mem_append_left → zA, length_append → yY, mem_cons → yX, mem_append → yW, mem_cons_of_mem → yV, getD_eq_getElem?_getD → yU, getElem?_eq_some_iff → yT, length_cons → yR, getElem?_append_left → yQ, mem_of_getElem? → yN, map_congr_left → yM, mem_filter → yL, length_filter_le → yJ, getElem?_range → yA, length_range → xZ, not_mem_nil → xX, nodup_cons → xV, filter_map → xU, map_append → xI
open PySem.Heap renaming get?_push_of_some → zW, lt_size → zM, get?_push_size → yZ, get?_update_other → yC, get?_update_ne → yB
open Nat renaming le_refl → zR, lt_of_le_of_lt → zQ, lt_of_lt_of_le → zP, le_trans → zN, ne_of_lt → zC, lt_irrefl → yF, le_of_ble_eq_true → yD, zero_le → xT, le_of_lt → xR, lt_trans → xQ
open PySem.SeqAt renaming shaped → zH, canLay_of_shaped → zG
open Option renaming isSome_iff_exists → xY
open PySem.Calls renaming spliced_cons → xP
open PySem.Builtin.Int renaming intBits → xJ
open PyProof.Rows renaming callWith_type1 → xH, sortedS → xG
abbrev sT (n:Nat):PySem.Stmt:=PySem.Challenge.pw_struckdeeds_k31_worlds_and_needs_of_book.main.body.getD n (.Pass ⟨0,0,0,0⟩)
abbrev Frg:=PySem.W.Frag
theorem nft:¬(false=true):=Bool.false_ne_true
namespace L2
open PySem PySem.Spec PyProof.Rows
abbrev Key:=Sum Int Str
def K6:Key->Value->Bool
 | .inl k,v=>Value.isInt k v
 | .inr x,v=>Value.isStrOf x v
def vB (w:World):Key->Int
 | .inl k=>hashInt k
 | .inr x=>hashStr w x
theorem B1:∀{k:Key}{v:Value},K6 k v=true->(∃i t,k=c0Q i/\v=b5W i t)∨(∃x t,k=a0K x/\v=b8J x t)
 | .inl i,v,h=>by
   obtain⟨t,e⟩:=Value.isInt_shape (k:=i) (v:=v) h
   exact .inl ⟨i,t,rfl,e⟩
 | .inr x,v,h=>by
   obtain⟨t,e⟩:=Value.isStrOf_shape (x:=x) (v:=v) h
   exact .inr ⟨x,t,rfl,e⟩
theorem a9 (i:Int) (t:Tok):K6 (.inl i) (.int i t)=true:=by simp[K6,Value.isInt]
theorem aA (x:Str) (t:Tok):K6 (.inr x) (.str x t)=true:=by simp[K6,Value.isStrOf]
theorem oR (a b:Int):decide ((c0Q a:Key)=c0Q b)=(a==b):=by
 by_cases e:a=b
 · subst e;simp
 · have h:¬(c0Q a:Key)=c0Q b:=fun q=>e (Sum.inl.inj q)
   rw[decide_eq_false h]
   exact(beq_eq_false_iff_ne.mpr e).symm
theorem oS (a b:Str):decide ((a0K a:Key)=a0K b)=decide (a=b):=by
 by_cases e:a=b
 · subst e;simp
 · have h:¬(a0K a:Key)=a0K b:=fun q=>e (Sum.inr.inj q)
   rw[decide_eq_false h,decide_eq_false e]
theorem oU (a:Int) (b:Str):decide ((c0Q a:Key)=a0K b)=false:=decide_eq_false (fun q=>nomatch q)
theorem oV (a:Str) (b:Int):decide ((a0K a:Key)=c0Q b)=false:=decide_eq_false (fun q=>nomatch q)
def AH (prog:Program) (w:World):PySem.KeyKind prog w Key where
 is:=K6
 hash:=vB w
 inj:=fun v a b ha hb=>by
   rcases B1 ha with ⟨i,t,rfl,rfl⟩ | ⟨x,t,rfl,rfl⟩
   · rcases B1 hb with ⟨j,u,rfl,e⟩ | ⟨y,u,rfl,e⟩
     · injection e with e1 _;rw[e1]
     · exact nomatch e
   · rcases B1 hb with ⟨j,u,rfl,e⟩ | ⟨y,u,rfl,e⟩
     · exact nomatch e
     · injection e with e1 _;rw[e1]
 byValue:=fun k v h=>by
   rcases B1 h with ⟨i,t,rfl,rfl⟩ | ⟨x,t,rfl,rfl⟩ <;> rfl
 pyHash:=fun hv h=>by
   rcases B1 hv with ⟨i,t,rfl,rfl⟩ | ⟨x,t,rfl,rfl⟩
   · exact wpAny_pyHash_int h
   · exact wpAny_pyHash_str h
 eqBool:=fun hu hv h=>by
   rcases B1 hu with ⟨i,t,rfl,rfl⟩ | ⟨x,t,rfl,rfl⟩
   · rcases B1 hv with ⟨j,u,rfl,rfl⟩ | ⟨y,u,rfl,rfl⟩
     · rw[oR] at h;exact wpAny_eqBool_int h
     · rw[oU] at h;exact SeqAt.EqAt.int_str i t y u _ _ _ _ h
   · rcases B1 hv with ⟨j,u,rfl,rfl⟩ | ⟨y,u,rfl,rfl⟩
     · rw[oV] at h;exact SeqAt.EqAt.str_int x t j u _ _ _ _ h
     · rw[oS] at h;exact wpAny_eqBool_str h
 «strs»:=fun k x t v h=>by
   rcases B1 h with ⟨i,u,rfl,e⟩ | ⟨y,u,rfl,e⟩
   · exact nomatch e
   · injection e with e1 _
     subst e1
     cases v <;> rfl
theorem U4 (prog:Program) (w:World) (i:Int) (t:Tok):(AH prog w).is (.inl i) (.int i t)=true:=a9 i t
theorem M0 (prog:Program) (w:World) (x:Str) (t:Tok):(AH prog w).is (.inr x) (.str x t)=true:=aA x t
inductive V where
 | non | bl (b:Bool) | int (i:Int) | str (x:Str) | byt (b:Array UInt8) | flt (b:UInt64) | ref (a:Addr) | ty (n:String)
 deriving DecidableEq
def RelV:V->Value->Prop
 | .non,u=>u=a1J
 | .bl b,u=>u=Value.bool b
 | .int i,u=>∃t,u=b5W i t
 | .str x,u=>∃t,u=b8J x t
 | .byt b,u=>∃t,u=Value.bytes b t
 | .flt b,u=>∃t,u=Value.float b t
 | .ref a,u=>u=a0X a
 | .ty n,u=>u=b8Z n
abbrev Vals:List V->List Value->Prop:=Paired RelV
theorem Vals.length {xs:List V}{us:List Value}(r:Vals xs us):xs.length=us.length:=Paired.length r
theorem Vals.get:∀{xs:List V}{us:List Value}{i:Nat}{x:V},Vals xs us->xs[i]?=some x->∃u,us[i]?=some u/\RelV x u
 | _,_,_,_,.nil,e=>by simp at e
 | _,_,0,_,.cons r _,e=>by simp at e;subst e;exact⟨_,rfl,r⟩
 | _,_,i+1,x,.cons _ t,e=>by
   obtain⟨u,h1,h2⟩:=Vals.get (i:=i) (x:=x) t (by simpa using e)
   exact⟨u,by simpa using h1,h2⟩
theorem Vals.set {x:V}{u:Value}(r:RelV x u):∀{xs:List V}{us:List Value}(i:Nat),Vals xs us->Vals (xs.set i x) (us.set i u)
 | _,_,_,.nil=>.nil
 | _,_,0,.cons _ t=>.cons r t
 | _,_,i+1,.cons q t=>.cons q (Vals.set r i t)
theorem Vals.append:∀{xs ys:List V}{us ws:List Value},Vals xs us->Vals ys ws->Vals (xs++ys) (us++ws)
 | _,_,_,_,.nil,s=>s
 | _,_,_,_,.cons r t,s=>.cons r (Vals.append t s)
theorem Vals.take:∀{xs:List V}{us:List Value}(n:Nat),Vals xs us->Vals (xs.take n) (us.take n)
 | _,_,0,_=>.nil
 | _,_,_+1,.nil=>.nil
 | _,_,n+1,.cons r t=>.cons r (Vals.take n t)
theorem Vals.drop:∀{xs:List V}{us:List Value}(n:Nat),Vals xs us->Vals (xs.drop n) (us.drop n)
 | _,_,0,r=>r
 | _,_,_+1,.nil=>.nil
 | _,_,n+1,.cons _ t=>Vals.drop n t
def RelO:Option V->Option Value->Prop
 | some v,some u=>RelV v u
 | none,none=>True
 | _,_=>False
def KV {κ:Type}:List (κ×V)->List (κ×Value)->Prop:=Paired fun(p:κ×V) (q:κ×Value)=>p.1=q.1/\RelV p.2 q.2
def kV:Key->V
 | .inl i=>.int i
 | .inr x=>.str x
inductive HO where
 | lst (xs:List V)
 | tup (xs:List V)
 | dK (kvs:List (Key×V)) | dT (kvs:List (List Key×V))
 | set (S:Int->Bool) (n:Nat)
 | ins (C dx:Addr) (fs:List (Str×V))
 | own (x:Addr)
 | xd (fs:List (Str×V))
 | met (f x:Addr)
 | rng (lo hi:Int)
 | frz (o:Obj) (u:HO)
 | tbl (ps:Array Value)
 | ext (φ:Heap->Prop)
abbrev Hp:=Addr->Option HO
def upd (H:Hp) (a:Addr) (o:HO):Hp:=fun b=>if b=a then some o else H b
theorem AG {H:Hp}{a:Addr}{o:HO}:upd H a o a=some o:=by unfold upd;rw[if_pos rfl]
theorem AF {H:Hp}{a b:Addr}{o:HO}(h:b≠a):upd H a o b=H b:=by unfold upd;rw[if_neg h]
theorem sS {H:Hp}{a b:Addr}{o u:HO}(h:H a=some o) (h':H b=some u) (d:o≠u):a≠b:=by
 intro e;subst e;rw[h] at h';exact d (Option.some.inj h')
theorem AV {H:Hp}{a b:Addr}{o:HO}(h:H a=some o) (h':H b=none):a≠b:=by
 intro e;subst e;rw[h] at h';cases h'
section
variable (P:Program) (w:World)
def ObjOk (H:Hp) (h:Heap) (a:Addr):HO->Prop
 | .lst xs=>xs.length<=sizeLine/\∃(its:List Value) (n:Nat),Vals xs its/\h.get? a=some { cls:=.type "list", data:=.seq its.toArray n }
 | .tup xs=>xs.length<=sizeLine/\∃its:List Value,Vals xs its/\IsTup h a its.toArray
 | .dK kvs=>kvs.length<=sizeLine/\(a==sysModules)=false/\∃vs,KV kvs vs/\h.DictOf (AH P w) a vs
 | .dT kvs=>kvs.length<=sizeLine/\(a==sysModules)=false/\∃xs:List (List Key×Addr×Value),
     Paired (fun(p:List Key×V) (q:List Key×Addr×Value)=>p.1=q.1/\H q.2.1=some (.tup (p.1.map kV))/\RelV p.2 q.2.2) kvs xs /\
     ∃o es ep,h.get? a=some o/\o.ExactDict/\o.data = .dict es ep/\es.toList=xs.map (entryOfKey (tupleKind (AH P w)))/\(xs.map (·.1)).Nodup
 | .set S n=>h.SetOf (intKind P w) a S n
 | .ins C dx fs=>H dx=some (.own a)/\fs.length<=1000/\dx≠a/\h.get? a=some (PySem.W.instObj C dx) /\
     ∃mA,h.Ns1 dx mA/\(∀f,RelO (fs.lookup f) (mA f))/\PySem.Within mA (fs.map (·.1))
 | .own _=>∃o,h.get? a=some o
 | .xd fs=>∃mA,h.Ns1 a mA/\∀f,RelO (fs.lookup f) (mA f)
 | .rng lo hi=>∃t u v,h.get? a=some { cls:=.type "range", data:=.fields #[.int lo t,.int hi u,.int 1 v] }
 | .frz o u=>h.get? a=some o/\ObjOk H h a u
 | .tbl ps=>h.get? a=some { cls:=.none,data:=.fields ps }
 | .met f x=>h.get? a=some (PySem.W.methodObj (.ref f) (.ref x))
 | .ext φ=>φ h/\(∃o,h.get? a=some o)/\∀h1 h2:Heap,φ h1->(∀o,h1.get? a=some o->h2.get? a=some o)->φ h2
def HOk (H:Hp) (h:Heap):Prop:=∀a o,H a=some o->ObjOk P w H h a o
end
section
variable {P:Program}{w:World}{H H':Hp}{h h':Heap}{a:Addr}{o:HO}
theorem ObjOk.lt (x:ObjOk P w H h a o):a < h.objs.size:=by
 cases o with
 | lst xs=>obtain⟨_,_,_,_,e⟩:=x;exact zM e
 | tup xs=>obtain⟨_,_,_,p⟩:=x;exact p.lt
 | dK kvs=>obtain⟨_,_,_,_,o,_,_,e,_⟩:=x;exact zM e
 | dT kvs=>obtain⟨_,_,_,_,o,_,_,e,_⟩:=x;exact zM e
 | set S n=>obtain⟨o,_,_,_,e,_⟩:=x;exact zM e
 | ins C dx fs=>obtain⟨_,_,_,e,_⟩:=x;exact zM e
 | own y=>obtain⟨_,e⟩:=x;exact zM e
 | xd fs=>obtain⟨_,⟨_,_,_,e,_⟩,_⟩:=x;exact zM e
 | rng lo hi=>obtain⟨_,_,_,e⟩:=x;exact zM e
 | frz ob u=>obtain⟨e,_⟩:=x;exact zM e
 | tbl ps=>exact zM (show h.get? a=some _ from x)
 | met f y=>exact zM (show h.get? a=some _ from x)
 | ext φ=>obtain⟨_,⟨_,e⟩,_⟩:=x;exact zM e
theorem Paired.mapP {α β:Type}{F G:α->β->Prop}:∀{l₁:List α}{l₂:List β},Paired F l₁ l₂->(∀a b,F a b->G a b)->Paired G l₁ l₂
 | _,_,.nil,_=>.nil
 | _,_,.cons r t,f=>.cons (f _ _ r) (Paired.mapP t f)
theorem ObjOk.stay (x:ObjOk P w H h a o) (k:∀b u,(b=a∨H b=some (.own a))->h.get? b=some u->h'.get? b=some u)
   (ho:∀b,H b=some (.own a)->H' b=some (.own a)) (ht:∀b xs,H b=some (.tup xs)->H' b=some (.tup xs)):ObjOk P w H' h' a o:=by
 induction o with
 | lst xs=>obtain⟨z,its,n,r,e⟩:=x;exact⟨z,its,n,r,k _ _ (.inl rfl) e⟩
 | tup xs=>obtain⟨z,its,r,ob,e,c⟩:=x;exact⟨z,its,r,ob,k _ _ (.inl rfl) e,c⟩
 | dK kvs=>obtain⟨z,y,vs,r,ob,es,ep,e,c⟩:=x;exact⟨z,y,vs,r,ob,es,ep,k _ _ (.inl rfl) e,c⟩
 | dT kvs=>
   obtain⟨z,y,xs,r,ob,es,ep,e,c⟩:=x
   exact⟨z,y,xs,Paired.mapP r fun p q z=>⟨z.1,ht _ _ z.2.1,z.2.2⟩,ob,es,ep,k _ _ (.inl rfl) e,c⟩
 | set S n=>obtain⟨ob,es,ep,t,e,c⟩:=x;exact⟨ob,es,ep,t,k _ _ (.inl rfl) e,c⟩
 | ins C dx fs=>
   obtain⟨d,z,ne,e,mA,⟨od,es,ep,e2,c⟩,r⟩:=x
   exact⟨ho _ d,z,ne,k _ _ (.inl rfl) e,mA,⟨od,es,ep,k _ _ (.inr d) e2,c⟩,r⟩
 | own y=>obtain⟨ob,e⟩:=x;exact⟨ob,k _ _ (.inl rfl) e⟩
 | xd fs=>obtain⟨mA,⟨od,es,ep,e,c⟩,r⟩:=x;exact⟨mA,⟨od,es,ep,k _ _ (.inl rfl) e,c⟩,r⟩
 | rng lo hi=>obtain⟨t,u,v,e⟩:=x;exact⟨t,u,v,k _ _ (.inl rfl) e⟩
 | frz ob u ih=>obtain⟨e,q⟩:=x;exact⟨k _ _ (.inl rfl) e,ih q⟩
 | tbl ps=>
   have e:h.get? a=some { cls:=.none,data:=.fields ps }:=x
   show h'.get? a=some { cls:=.none,data:=.fields ps }
   exact k a _ (.inl rfl) e
 | met f y=>
   have e:h.get? a=some (PySem.W.methodObj (.ref f) (.ref y)):=x
   show h'.get? a=some (PySem.W.methodObj (.ref f) (.ref y))
   exact k a _ (.inl rfl) e
 | ext φ=>obtain⟨p,⟨o,e⟩,st⟩:=x;exact⟨st _ _ p fun o q=>k _ _ (.inl rfl) q,⟨o,k _ _ (.inl rfl) e⟩,st⟩
theorem HOk.lt (x:HOk P w H h) (e:H a=some o):a < h.objs.size:=(x a o e).lt
theorem HOk.fresh (x:HOk P w H h) (e:h.objs.size<=a):H a=none:=by
 cases q:H a with
 | none=>rfl
 | some u=>exact absurd (zP (x.lt q) e) (yF _)
theorem HOk.kept (x:HOk P w H h) (k:∀b u,h.get? b=some u->h'.get? b=some u):HOk P w H h':=fun a o e=>
 (x a o e).stay (fun b u _ q=>k b u q) (fun _ q=>q) fun _ _ q=>q
theorem HOk.laid (x:HOk P w H h) (k:∀b u,h.get? b=some u->h'.get? b=some u) (hp:h.objs.size<=a) (new:ObjOk P w (upd H a o) h' a o):HOk P w (upd H a o) h':=fun b u e=>by
 have hn:=x.fresh hp
 by_cases hb:b=a
 · subst hb;rw[AG] at e;cases e;exact new
 · rw[AF hb] at e
   exact(x b u e).stay (fun c v _ q=>k c v q) (fun c q=>by rw[AF (AV q hn)];exact q) fun c xs q=>by rw[AF (AV q hn)];exact q
end
def Rd (H:Hp) (a:Addr) (u:HO):Prop:=H a=some u∨∃o,H a=some (.frz o u)
theorem Rd.ok {P:Program}{w:World}{H:Hp}{h:Heap}{a:Addr}{u:HO}(r:Rd H a u) (x:HOk P w H h):ObjOk P w H h a u:=by
 rcases r with r | ⟨o,r⟩
 · exact x a u r
 · obtain⟨_,q⟩:=x a _ r
   exact q
def Mut:Option HO->Prop
 | some (.lst _)=>True
 | some (.dK _)=>True
 | some (.dT _)=>True
 | some (.set _ _)=>True
 | some (.ins _ _ _)=>True
 | some (.ext _)=>True
 | _=>False
section
variable {P:Program}{w:World}{H:Hp}{h h':Heap}{x e:Addr}{o':HO}
theorem HOk.write (ok:HOk P w H h) (mu:Mut (H x)) (he:e=x∨H e=some (.own x)) (k:∀b u,b≠e->h.get? b=some u->h'.get? b=some u) (heo:∃u,h'.get? e=some u)
   (new:ObjOk P w (upd H x o') h' x o'):HOk P w (upd H x o') h':=fun b u q=>by
 have nown:∀c y,H c=some (.own y)->c≠x:=fun c y r z=>by subst z;rw[r] at mu;exact mu
 have ntup:∀c xs,H c=some (.tup xs)->c≠x:=fun c xs r z=>by subst z;rw[r] at mu;exact mu
 by_cases hb:b=x
 · subst hb;rw[AG] at q;cases q;exact new
 · rw[AF hb] at q
   by_cases hbe:b=e
   · have q':H b=some (.own x):=by
       rcases he with z | z
       · exact absurd (hbe.trans z) hb
       · rw[hbe];exact z
     rw[q] at q';cases q'
     obtain⟨v,hv⟩:=heo
     exact⟨v,by rw[hbe];exact hv⟩
   · refine(ok b u q).stay (fun c v hc r=>k c v ?_ r) (fun c r=>by rw[AF (nown c b r)];exact r) fun c xs r=>by rw[AF (ntup c xs r)];exact r
     rcases hc with rfl | hc
     · exact hbe
     · rintro rfl
       rcases he with z | z
       · exact nown c b hc z
       · rw[hc] at z;cases z;exact hb rfl
end
structure Un (fs ex:List Addr) (H H':Hp) (h h':Heap):Prop where
 keep:∀b o,h.get? b=some o->H b=none->b∉fs->b∉ex->h'.get? b=some o
 slot:∀b o,h.get? b=some o->H b=none->b∈fs->b∉ex->∃sl,h'.get? b=some { o with slots:=sl }
 free:∀b o,h.get? b=some o->H b=none->b∉ex->H' b=none
 there:∀b o,h.get? b=some o->b∉ex->∃o',h'.get? b=some o'
 tups:∀b xs,H b=some (.tup xs)->H' b=some (.tup xs)
 frzs:∀b o u,H b=some (.frz o u)->H' b=some (.frz o u)
 tbls:∀b ps,H b=some (.tbl ps)->∃more,H' b=some (.tbl (ps++more))
section
variable {fs fs' ex ex':List Addr}{H H1 H2:Hp}{h h1 h2 h':Heap}{a x e:Addr}{o:HO}
theorem Un.any (u:Un fs ex H H1 h h1) {b:Addr}{ob:Obj}(q:h.get? b=some ob) (n:H b=none) (hx:b∉ex):∃sl,h1.get? b=some { ob with slots:=sl }:=by
 by_cases hb:b∈fs
 · exact u.slot b ob q n hb hx
 · exact⟨ob.slots,u.keep b ob q n hb hx⟩
theorem Un.kept (k:∀b u,h.get? b=some u->h'.get? b=some u):Un fs ex H H h h':=
 ⟨fun b ob q _ _ _=>k b ob q,fun b ob q _ _ _=>⟨ob.slots,k b ob q⟩,fun _ _ _ n _=>n,fun b ob q _=>⟨ob,k b ob q⟩,fun _ _ q=>q,fun _ _ _ q=>q,fun _ ps q=>⟨#[],by rw[q];simp⟩⟩
theorem Un.refl:Un fs ex H H h h:=Un.kept fun _ _ q=>q
theorem Un.laid (k:∀b u,h.get? b=some u->h'.get? b=some u) (hp:h.objs.size<=a) (hn:H a=none):Un fs ex H (upd H a o) h h' where
 keep:=fun b u q _ _ _=>k b u q
 slot:=fun b u q _ _ _=>⟨u.slots,k b u q⟩
 free:=fun b u q n _=>by rw[AF (zC (zP (zM q) hp))];exact n
 there:=fun b u q _=>⟨u,k b u q⟩
 tups:=fun b xs q=>by rw[AF (AV q hn)];exact q
 frzs:=fun b u xs q=>by rw[AF (AV q hn)];exact q
 tbls:=fun b ps q=>⟨#[],by rw[AF (AV q hn),q];simp⟩
theorem Un.write (mu:Mut (H x)) (he:e=x∨H e=some (.own x)) (k:∀b u,b≠e->h.get? b=some u->h'.get? b=some u) (heo:∃u,h'.get? e=some u):Un fs ex H (upd H x o) h h':=by
 have hx:∀b,H b=none->b≠x:=fun b n z=>by subst z;rw[n] at mu;exact mu
 have hb:∀b,H b=none->b≠e:=fun b n z=>by
   subst z
   rcases he with r | r
   · exact hx b n r
   · rw[n] at r;cases r
 have hm:∀b u,H b=some u->¬Mut (some u)->b≠x:=fun b u q nm z=>by subst z;rw[q] at mu;exact nm mu
 refine⟨fun b u q n _ _=>k b u (hb b n) q,fun b u q n _ _=>⟨u.slots,k b u (hb b n) q⟩,fun b u q n _=>by rw[AF (hx b n)];exact n,fun b u q _=>?_,
   fun b xs q=>by rw[AF (hm b _ q fun z=>z)];exact q,fun b u xs q=>by rw[AF (hm b _ q fun z=>z)];exact q,fun b ps q=>⟨#[],by rw[AF (hm b _ q fun z=>z),q];simp⟩⟩
 by_cases hbe:b=e
 · subst hbe;exact heo
 · exact⟨u,k b u hbe q⟩
end
def trk (h:Heap) (H:Hp):List Addr:=(a1V h.objs.size).filter fun a=>(H a).isSome
def RS (h:Heap) (H:Hp):Heap:=PySem.W.hideAll h (trk h H)
theorem aB (h:Heap) (H:Hp):(RS h H).objs.size=h.objs.size:=PySem.W.hideAll_size _ _
theorem cU {h:Heap}{H:Hp}{b:Addr}{o:Obj}(e:h.get? b=some o) (n:H b=none):(RS h H).get? b=some o:=
 PySem.W.hideAll_get _ e fun hm=>by
   have q:(H b).isSome=true:=(yL.mp hm).2
   rw[n] at q;simp at q
theorem jS {h:Heap}{H:Hp}{b:Addr}{o:Obj}(e:(RS h H).get? b=some o):h.get? b=some o/\H b=none:=by
 have e':h.get? b=some o:=PySem.W.of_hideAll (trk h H) e
 refine⟨e',?_⟩
 cases q:H b with
 | none=>rfl
 | some x=>
   have hm:b∈trk h H:=yL.mpr ⟨List.mem_range.mpr (zM e'),by simp[q]⟩
   have z:(RS h H).get? b=none:=PySem.W.hideAll_none (trk h H) hm
   rw[z] at e;cases e
structure Mod (K:Frg) (mg:Str->Option Value) (base:Heap):Prop where
 kin:K.In base
 glob:base.Ns mainGlobals mg
 blt:∃mb,base.Ns builtinsNs mb/\∀x:Str,x ≠ "__name__" -> mb x=bootBuiltins x
 nolimit:base.NoLimit
structure Cx where
 prog:Program
 w:World
 K:Frg
 mg:Str->Option Value
 base:Heap
 A:Around
 N:List Str
 s₀:Shared
 H₀:Hp
 env:Env
 outer:List Env
 stack:List Env
 ex:List Addr
 fn:Str->Bool
 calm:Bool
 pn:List (Addr×Obj)
 xe:Value->Shared->Prop
def frs (l:List Env):List Addr:=l.filterMap (·.frame)
abbrev Cx.fs (X:Cx):List Addr:=frs X.outer
def Vis (sc:Scope) (x:Str):Prop:=sc.names.lookup x=some .local∨sc.names.lookup x=some .cell∨sc.names.lookup x=some .free
def Loc (sc:Scope) (x:Str):Prop:=sc.names.lookup x=some .local∨sc.names.lookup x=some .cell
def vC (env:Env) (h:Heap) (m:Str->Option Value) (x:Str) (u:Value):Prop:=
 (env.kindOf x=some .local/\m x=some u)∨((env.kindOf x=some .cell∨env.kindOf x=some .free)/\∃c,env.cells.lookup x=some c/\h.IsCell c (some u))
structure Cx.Ok (X:Cx):Prop where
 mod:Mod X.K X.mg X.base
 kind:X.env.scope.kind = .function
 glob:X.env.globals=mainGlobals
 blt:X.env.builtins=builtinsNs
 above:X.s₀.heap.objs.size<=X.env.locals
 inj:∀x y c,X.env.cells.lookup x=some c->X.env.cells.lookup y=some c->x=y
 has:∀x,(X.env.kindOf x=some .cell∨X.env.kindOf x=some .free)->∃c,X.env.cells.lookup x=some c
 cab:∀x c,X.fn x=true->X.env.cells.lookup x=some c->X.s₀.heap.objs.size<=c
 hd:X.calm=true->X.A.handled=none
 frames:X.A.frames=some X.stack
 stk:X.stack=X.outer∨(X.stack=X.env::X.outer/\X.env.frame=some X.env.locals)
 exf:∀b∈X.ex,b≠X.env.locals/\∀x c,X.env.cells.lookup x=some c->c≠b
 bs:∀b o,X.base.get? b=some o->X.s₀.heap.get? b=some o/\X.H₀ b=none
 bsz:X.base.objs.size<=X.s₀.heap.objs.size
 noex:∀b o,X.base.get? b=some o->b∉X.ex
 exfs:∀b∈X.ex,b∉X.fs
 funs:X.s₀.heap.FunFrames X.base X.outer
 frf:∀b∈X.fs,X.H₀ b=none
structure Inv (X:Cx) (pins:List (Addr×Obj)) (σ:List (Option V)) (H:Hp) (s:Shared):Prop where
 ok:X.Ok
 os:s.os=X.s₀.os
 bare:AllBare s.gens
 base:Un X.fs X.ex X.H₀ H X.s₀.heap s.heap
 loc:∃m,s.heap.Ns X.env.locals m/\∀(i:Nat) (x:Str) (v:V),X.N[i]?=some x->σ[i]?=some (some v)->Vis X.env.scope x->∃u,RelV v u/\vC X.env s.heap m x u
 cell:∀x c,X.env.cells.lookup x=some c->∃v,s.heap.IsCell c v
 free:H X.env.locals=none
 freeC:∀x c,X.env.cells.lookup x=some c->H c=none
 pin:∀p∈X.pn++pins,s.heap.get? p.1=some p.2/\H p.1=none/\p.1≠X.env.locals/\p.1∉X.fs/\∀v,p.2.data≠.cell v
 hok:HOk X.prog X.w H s.heap
 len:σ.length=X.N.length
section
variable {X:Cx}{pins:List (Addr×Obj)}{σ:List (Option V)}{H H':Hp}{s:Shared}{h':Heap}
theorem Cx.Ok.nofr (ok:X.Ok) {b:Addr}{o:Obj}(e:X.base.get? b=some o):b∉X.fs:=fun hb=>by
 have:=(ok.funs.mem hb).1
 rw[e] at this;cases this
theorem Inv.bs (I:Inv X pins σ H s):∀b o,X.base.get? b=some o->s.heap.get? b=some o/\H b=none:=fun b o e=>
 ⟨I.base.keep b o (I.ok.bs b o e).1 (I.ok.bs b o e).2 (I.ok.nofr e) (I.ok.noex b o e),I.base.free b o (I.ok.bs b o e).1 (I.ok.bs b o e).2 (I.ok.noex b o e)⟩
theorem Inv.bk (I:Inv X pins σ H s):∀b o,X.base.get? b=some o->s.heap.get? b=some o:=fun b o e=>(I.bs b o e).1
theorem Inv.mod (I:Inv X pins σ H s):Mod X.K X.mg X.base:=I.ok.mod
theorem Inv.kIn (I:Inv X pins σ H s):X.K.In s.heap:=I.ok.mod.kin.keeps I.bk
theorem Inv.lt (I:Inv X pins σ H s):X.env.locals < s.heap.objs.size:=let ⟨_,hn,_⟩:=I.loc;hn.lt
theorem Inv.sz (I:Inv X pins σ H s):X.s₀.heap.objs.size<=s.heap.objs.size:=zN I.ok.above (xR I.lt)
theorem Inv.nofs (I:Inv X pins σ H s) {a:Addr}(h:s.heap.objs.size<=a):a∉X.fs:=fun hb=>by
 obtain⟨_,o,ho,_⟩:=I.ok.funs.mem hb
 exact absurd (zP (zM ho) (zN I.sz h)) (yF _)
theorem Inv.cne (I:Inv X pins σ H s):∀x c,X.env.cells.lookup x=some c->c≠X.env.locals:=fun x c e z=>by
 obtain⟨v,o,ho,hd⟩:=I.cell x c e
 obtain⟨m,⟨o',es,ep,ho',hd',_⟩,_⟩:=I.loc
 rw[z,ho'] at ho;cases ho;rw[hd'] at hd;cases hd
theorem Inv.funs (I:Inv X pins σ H s):s.heap.FunFrames X.base X.outer:=by
 have all:∀(l:List Env),(∀b∈frs l,b∈X.fs)->X.s₀.heap.FunFrames X.base l->s.heap.FunFrames X.base l:=by
   intro l
   induction l with
   | nil=>intro _ _;trivial
   | cons env r ih=>
     intro hs hl
     obtain⟨hk,⟨L,o,hf,hn,ho,hd⟩,hr⟩:=hl
     have hL:L∈X.fs:=hs L (by unfold frs;rw[a4J,hf];exact a1Z)
     obtain⟨sl,e⟩:=I.base.slot L o ho (I.ok.frf L hL) hL fun z=>I.ok.exfs L z hL
     exact⟨hk,⟨L,_,hf,hn,e,hd⟩,ih (fun b hb=>hs b (by unfold frs;rw[a4J,hf];exact yV _ hb)) hr⟩
 exact all X.outer (fun _ hb=>hb) I.ok.funs
theorem Inv.stack (I:Inv X pins σ H s):s.heap.FunFrames X.base X.stack:=by
 rcases I.ok.stk with e | ⟨e,hf⟩
 · rw[e];exact I.funs
 · rw[e]
   obtain⟨m,hn,_⟩:=I.loc
   refine .cons (by rw[I.ok.kind];decide) hf hn ?_ I.funs
   exact Heap.get?_none_of_le (zN I.ok.bsz I.ok.above)
theorem Inv.stkSub (I:Inv X pins σ H s):∀b∈frs X.stack,b∈X.env.locals::X.fs:=fun b hb=>by
 rcases I.ok.stk with e | ⟨e,hf⟩
 · rw[e] at hb;exact yV _ hb
 · rw[e] at hb
   unfold frs at hb
   rw[a4J,hf] at hb
   exact hb
theorem Inv.stkFree (I:Inv X pins σ H s):∀b∈frs X.stack,H b=none:=fun b hb=>by
 rcases yX.mp (I.stkSub b hb) with e | hb
 · rw[e];exact I.free
 · obtain⟨_,o,ho,_⟩:=I.ok.funs.mem hb
   exact I.base.free b o ho (I.ok.frf b hb) fun z=>I.ok.exfs b z hb
theorem Inv.step {g':Array GenState}{t':Nat}{d':Drawn}{ch:List Addr}(I:Inv X pins σ H s)
   (hch:∀b∈ch,(b∈X.ex∨X.s₀.heap.objs.size<=b)/\b≠X.env.locals/\(∀x c,X.env.cells.lookup x=some c->c≠b)/\∀p∈X.pn++pins,p.1≠b)
   (keep:∀b o,b≠X.env.locals->b∉X.fs->b∉ch->s.heap.get? b=some o->H b=none->h'.get? b=some o)
   (slot:∀b o,b≠X.env.locals->b∈X.fs->b∉ch->s.heap.get? b=some o->H b=none->∃sl,h'.get? b=some { o with slots:=sl }) (free:∀b o,b∉ch->s.heap.get? b=some o->H b=none->H' b=none)
   (there:∀b o,b∉ch->s.heap.get? b=some o->∃o',h'.get? b=some o')
   (tups:∀b xs,H b=some (.tup xs)->H' b=some (.tup xs)) (frzs:∀b o u,H b=some (.frz o u)->H' b=some (.frz o u)) (tbls:∀b ps,H b=some (.tbl ps)->∃more,H' b=some (.tbl (ps++more)))
   (ns:∀m,s.heap.Ns X.env.locals m->h'.Ns X.env.locals m) (hok:HOk X.prog X.w H' h') (hg:AllBare g') :
   Inv X pins σ H' { s with heap:=h',gens:=g',drawn:=d',toks:=t' }:=by
 have neL:∀b o,X.s₀.heap.get? b=some o->b≠X.env.locals:=fun b o e=>zC (zP (zM e) I.ok.above)
 have neC:∀b o,X.s₀.heap.get? b=some o->b∉X.ex->b∉ch:=fun b o e hx hb=>by
   rcases (hch b hb).1 with z | z
   · exact hx z
   · exact absurd (zP (zM e) z) (yF _)
 have cellK:∀x c,X.env.cells.lookup x=some c->∀v,s.heap.IsCell c v->h'.IsCell c v:=fun x c e v ⟨o,ho,hd⟩=>by
   have nch:c∉ch:=fun z=>(hch c z).2.2.1 x c e rfl
   by_cases hc:c∈X.fs
   · obtain⟨sl,q⟩:=slot c o (I.cne x c e) hc nch ho (I.freeC x c e)
     exact⟨_,q,hd⟩
   · exact⟨o,keep c o (I.cne x c e) hc nch ho (I.freeC x c e),hd⟩
 refine⟨I.ok,I.os,hg,⟨fun b o e n hb hx=>?_,fun b o e n hb hx=>?_,fun b o e n hx=>?_,fun b o e hx=>?_,fun b xs e=>tups b xs (I.base.tups b xs e),fun b o xs e=>frzs b o xs (I.base.frzs b o xs e),fun b ps e=>?_⟩,?_,fun x c e=>?_,?_,fun x c e=>?_,fun p hp=>?_,hok,I.len⟩
 · exact keep b o (neL b o e) hb (neC b o e hx) (I.base.keep b o e n hb hx) (I.base.free b o e n hx)
 · obtain⟨sl,e1⟩:=I.base.slot b o e n hb hx
   obtain⟨sl',e2⟩:=slot b _ (neL b o e) hb (neC b o e hx) e1 (I.base.free b o e n hx)
   exact⟨sl',e2⟩
 · obtain⟨o',e1⟩:=I.base.there b o e hx
   exact free b o' (neC b o e hx) e1 (I.base.free b o e n hx)
 · obtain⟨o',e1⟩:=I.base.there b o e hx
   exact there b o' (neC b o e hx) e1
 · obtain⟨m1,e1⟩:=I.base.tbls b ps e
   obtain⟨m2,e2⟩:=tbls b _ e1
   exact⟨m1++m2,by rw[e2,Array.append_assoc]⟩
 · obtain⟨m,hn,hl⟩:=I.loc
   refine⟨m,ns m hn,fun i x v e1 e2 e3=>?_⟩
   obtain⟨u,r,l⟩:=hl i x v e1 e2 e3
   refine⟨u,r,?_⟩
   rcases l with l | ⟨k,c,e,z⟩
   · exact .inl l
   · exact .inr ⟨k,c,e,cellK x c e _ z⟩
 · obtain⟨v,z⟩:=I.cell x c e
   exact⟨v,cellK x c e v z⟩
 · obtain⟨m,⟨o,_,_,ho,_⟩,_⟩:=I.loc
   exact free _ o (fun z=>(hch _ z).2.1 rfl) ho I.free
 · obtain⟨v,o,ho,hd⟩:=I.cell x c e
   exact free c o (fun z=>(hch c z).2.2.1 x c e rfl) ho (I.freeC x c e)
 · obtain⟨e,n,ne,nf,d⟩:=I.pin p hp
   have nch:p.1∉ch:=fun z=>(hch p.1 z).2.2.2 p hp rfl
   exact⟨keep p.1 p.2 ne nf nch e n,free p.1 p.2 nch e n,ne,nf,d⟩
theorem Inv.un {t':Nat}(I:Inv X pins σ H s) (u:Un X.fs [] H H' s.heap h') (hok:HOk X.prog X.w H' h'):Inv X pins σ H' { s with heap:=h',toks:=t' }:=by
 obtain⟨m,⟨o,es,ep,ho,r⟩,_⟩:=id I.loc
 obtain⟨sl,hL⟩:=u.any ho I.free (by simp)
 exact I.step (g':=s.gens) (d':=s.drawn) (ch:=[]) (fun _ z=>nomatch z) (fun b o _ hb _ e n=>u.keep b o e n hb (by simp)) (fun b o _ hb _ e n=>u.slot b o e n hb (by simp)) (fun b o _ e n=>u.free b o e n (by simp)) (fun b o _ e=>u.there b o e (by simp)) u.tups u.frzs u.tbls (fun m' hm=>by
   obtain⟨o',es',ep',ho',r'⟩:=hm
   rw[ho] at ho';cases ho'
   exact⟨_,es',ep',hL,r'⟩) hok I.bare
theorem Inv.call {g':Array GenState}{t':Nat}{d':Drawn}{ch:List Addr}(I:Inv X pins σ H s) (u:Un (frs X.stack) ch H H' s.heap h') (hok:HOk X.prog X.w H' h') (hg:AllBare g')
   (hch:∀b∈ch,(b∈X.ex∨X.s₀.heap.objs.size<=b)/\b≠X.env.locals/\(∀x c,X.env.cells.lookup x=some c->c≠b)/\∀p∈X.pn++pins,p.1≠b) :
   Inv X pins σ H' { s with heap:=h',gens:=g',drawn:=d',toks:=t' }:=by
 obtain⟨m,⟨o,es,ep,ho,r⟩,_⟩:=id I.loc
 obtain⟨sl,hL⟩:=u.any ho I.free fun z=>(hch _ z).2.1 rfl
 exact I.step (ch:=ch) hch (fun b o hL hb hc e n=>u.keep b o e n (fun z=>(yX.mp (I.stkSub b z)).elim hL hb) hc) (fun b o _ _ hc e n=>u.any e n hc) (fun b o hc e n=>u.free b o e n hc) (fun b o hc e=>u.there b o e hc) u.tups u.frzs u.tbls (fun m' hm=>by
   obtain⟨o',es',ep',ho',r'⟩:=hm
   rw[ho] at ho';cases ho'
   exact⟨_,es',ep',hL,r'⟩) hok hg
theorem Inv.turned {t':Nat}{it:Addr}(I:Inv X pins σ H s) (k:∀b o,b≠it->s.heap.get? b=some o->h'.get? b=some o) (hn:H it=none) (hL:it≠X.env.locals)
   (h1:it∈X.ex∨X.s₀.heap.objs.size<=it) (h2:∀x c,X.env.cells.lookup x=some c->c≠it) (h3:∀p∈X.pn++pins,p.1≠it):Inv X pins σ H { s with heap:=h',toks:=t' }:=by
 have nit:∀b u,H b=some u->b≠it:=fun b u e z=>by rw[z,hn] at e;cases e
 refine I.step (g':=s.gens) (d':=s.drawn) (ch:=[it]) (fun b hb=>?_) (fun b o _ _ hc e _=>k b o (fun z=>hc (by simp[z])) e) (fun b o _ _ hc e _=>⟨o.slots,k b o (fun z=>hc (by simp[z])) e⟩) (fun _ _ _ _ n=>n)
   (fun b o hc e=>⟨o,k b o (fun z=>hc (by simp[z])) e⟩) (fun _ _ e=>e) (fun _ _ _ e=>e) (fun b ps e=>⟨#[],by rw[e];simp⟩) (fun m hm=>?_) (fun b u e=>?_) I.bare
 · have e:b=it:=by simpa using hb
   subst e
   exact⟨h1,hL,h2,h3⟩
 · obtain⟨o,es,ep,ho,r⟩:=hm
   exact⟨o,es,ep,k _ o (a8J hL) ho,r⟩
 · refine(I.hok b u e).stay (fun c v hc q=>k c v ?_ q) (fun _ q=>q) fun _ _ q=>q
   rcases hc with z | z
   · rw[z];exact nit b u e
   · exact nit c _ z
theorem Inv.tok (I:Inv X pins σ H s) (t:Nat):Inv X pins σ H { s with toks:=t }:=I.un (h':=s.heap) (t':=t) Un.refl I.hok
theorem Inv.kept {t':Nat}(I:Inv X pins σ H s) (k:∀b u,s.heap.get? b=some u->h'.get? b=some u):Inv X pins σ H { s with heap:=h',toks:=t' }:=I.un (Un.kept k) (I.hok.kept k)
theorem Inv.laid {a:Addr}{o:HO}{t':Nat}(I:Inv X pins σ H s) (k:∀b u,s.heap.get? b=some u->h'.get? b=some u) (hp:s.heap.objs.size<=a) (new:ObjOk X.prog X.w (upd H a o) h' a o) :
   Inv X pins σ (upd H a o) { s with heap:=h',toks:=t' }:=I.un (Un.laid k hp (I.hok.fresh hp)) (I.hok.laid k hp new)
theorem Inv.write {x e:Addr}{o:HO}{t':Nat}(I:Inv X pins σ H s) (mu:Mut (H x)) (he:e=x∨H e=some (.own x)) (k:∀b u,b≠e->s.heap.get? b=some u->h'.get? b=some u) (heo:∃u,h'.get? e=some u)
   (new:ObjOk X.prog X.w (upd H x o) h' x o):Inv X pins σ (upd H x o) { s with heap:=h',toks:=t' }:=I.un (Un.write mu he k heo) (I.hok.write mu he k heo new)
theorem Inv.weak {σ':List (Option V)}(I:Inv X pins σ H s) (hl:σ'.length=σ.length) (w:∀(i:Nat) v,σ'[i]?=some (some v)->σ[i]?=some (some v)):Inv X pins σ' H s:=
 ⟨I.ok,I.os,I.bare,I.base,let ⟨m,hn,hl'⟩:=I.loc;⟨m,hn,fun i x v e1 e2 e3=>hl' i x v e1 (w i v e2) e3⟩,I.cell,I.free,I.freeC,I.pin,I.hok,hl.trans I.len⟩
theorem Inv.pins_of {pins':List (Addr×Obj)}(I:Inv X pins σ H s) (h:∀p∈pins',s.heap.get? p.1=some p.2/\H p.1=none/\p.1≠X.env.locals/\p.1∉X.fs/\∀v,p.2.data≠.cell v):Inv X pins' σ H s:=
 ⟨I.ok,I.os,I.bare,I.base,I.loc,I.cell,I.free,I.freeC,fun p hp=>(yW.mp hp).elim (fun z=>I.pin p (zA _ z)) (h p),I.hok,I.len⟩
theorem NK {N:List Str}(hN:N.Nodup) {i j:Nat}{x:Str}(a:N[i]?=some x) (b:N[j]?=some x):i=j:=by
 obtain⟨h1,e1⟩:=yT.mp a
 obtain⟨h2,e2⟩:=yT.mp b
 exact(List.getElem_inj hN).mp (e1.trans e2.symm)
theorem aC {M:Model}{A:Around}{E:Value->Shared->Prop}{i:Nat}{x:Str}{v:V}{u:Value}{Q:Unit->Shared->Prop}(I:Inv X pins σ H s) (hN:X.N.Nodup) (hi:X.N[i]?=some x) (hx:Loc X.env.scope x) (r:RelV v u)
   (h:∀s',Inv X pins (σ.set i (some v)) H s'->(∃a,Heap.SameBut a s.heap s'.heap/\(a=X.env.locals∨X.env.cells.lookup x=some a))->Q () s') (hf:X.fn x=true∨X.env.scope.names.lookup x=some .local:=by first | exact .inl rfl | exact .inr rfl | assumption):wpAny M A (storeName X.env x u) Q E s:=by
 obtain⟨m,hn,hl⟩:=id I.loc
 have hcls:(X.env.scope.kind==.class||(X.env.scope.kind==.module&&X.env.locals != X.env.globals))=false:=by rw[I.ok.kind];rfl
 have hiσ:i < σ.length:=by rw[I.len];exact(yT.mp hi).1
 have cne:=I.cne
 have tracked:∀{a:Addr}{h':Heap},(∃o,s.heap.get? a=some o/\H a=none)->Heap.SameBut a s.heap h'->HOk X.prog X.w H h':=fun {a h'} ha hs b ob e=>by
   obtain⟨_,_,hfree⟩:=ha
   refine(I.hok b ob e).stay (fun c w' hc q=>(hs.2 c ?_).trans q) (fun _ q=>q) fun _ _ q=>q
   rintro rfl
   rcases hc with rfl | hc
   · rw[hfree] at e;cases e
   · rw[hfree] at hc;cases hc
 rcases hx with hk | hk
 · refine wpAny_storeName_local hk hn (fun h' hn' hs=>?_) hcls
   obtain⟨oL,_,_,hoL,_⟩:=id hn
   refine h _ ⟨I.ok,I.os,I.bare,⟨fun b o e n hb hx=>?_,fun b o e n hb hx=>?_,I.base.free,fun b o e hx=>?_,I.base.tups,I.base.frzs,I.base.tbls⟩,⟨_,hn',fun j y v' e1 e2 e3=>?_⟩,fun y c e=>?_,I.free,I.freeC,fun p hp=>?_,tracked ⟨oL,hoL,I.free⟩ hs,by simpa using I.len⟩ ⟨_,hs,.inl rfl⟩
   · exact(hs.2 b (zC (zP (zM e) I.ok.above))).trans (I.base.keep b o e n hb hx)
   · obtain⟨sl,e1⟩:=I.base.slot b o e n hb hx
     exact⟨sl,(hs.2 b (zC (zP (zM e) I.ok.above))).trans e1⟩
   · obtain⟨o',e1⟩:=I.base.there b o e hx
     exact⟨o',(hs.2 b (zC (zP (zM e) I.ok.above))).trans e1⟩
   · by_cases hj:j=i
     · subst hj
       rw[hi] at e1;cases e1
       rw[List.getElem?_set_self hiσ] at e2
       cases e2
       exact⟨u,r,.inl ⟨hk,by simp⟩⟩
     · rw[b1J (a8J hj)] at e2
       obtain⟨u',r',q⟩:=hl j y v' e1 e2 e3
       refine⟨u',r',?_⟩
       rcases q with ⟨k,e⟩ | ⟨k,c,e,z⟩
       · refine .inl ⟨k,?_⟩
         have:y≠x:=fun e=>hj (NK hN e1 (e▸hi))
         simp[this,e]
       · exact .inr ⟨k,c,e,z.sameBut hs (cne y c e)⟩
   · obtain⟨w',z⟩:=I.cell y c e
     exact⟨w',z.sameBut hs (cne y c e)⟩
   · obtain⟨e,n,ne,nf,d⟩:=I.pin p hp
     exact⟨(hs.2 p.1 ne).trans e,n,ne,nf,d⟩
 · have hfn:X.fn x=true:=by
     rcases hf with z | z
     · exact z
     · rw[z] at hk;cases hk
   obtain⟨c,hc⟩:=I.ok.has x (.inl hk)
   obtain⟨w',z⟩:=I.cell x c hc
   refine wpAny_storeName_cell I.ok.kind hk hc z (fun h' hc' hs=>?_)
   obtain⟨oc,hoc,hocd⟩:=id z
   refine h { s with heap:=h' } ⟨I.ok,I.os,I.bare,⟨fun b o e n hb hx=>?_,fun b o e n hb hx=>?_,I.base.free,fun b o e hx=>?_,I.base.tups,I.base.frzs,I.base.tbls⟩,⟨m,hn.sameBut hs (a8J (cne x c hc)),fun j y v' e1 e2 e3=>?_⟩,fun y c' e=>?_,I.free,I.freeC,fun p hp=>?_,tracked ⟨oc,hoc,I.freeC x c hc⟩ hs,by simpa using I.len⟩ ⟨c,hs,.inr hc⟩
   · exact(hs.2 b (zC (zP (zM e) (I.ok.cab x c hfn hc)))).trans (I.base.keep b o e n hb hx)
   · obtain⟨sl,e1⟩:=I.base.slot b o e n hb hx
     exact⟨sl,(hs.2 b (zC (zP (zM e) (I.ok.cab x c hfn hc)))).trans e1⟩
   · obtain⟨o',e1⟩:=I.base.there b o e hx
     exact⟨o',(hs.2 b (zC (zP (zM e) (I.ok.cab x c hfn hc)))).trans e1⟩
   · by_cases hj:j=i
     · subst hj
       rw[hi] at e1;cases e1
       rw[List.getElem?_set_self hiσ] at e2
       cases e2
       exact⟨u,r,.inr ⟨.inl hk,c,hc,hc'⟩⟩
     · rw[b1J (a8J hj)] at e2
       obtain⟨u',r',q⟩:=hl j y v' e1 e2 e3
       refine⟨u',r',?_⟩
       rcases q with q | ⟨k,c',e,z'⟩
       · exact .inl q
       · refine .inr ⟨k,c',e,z'.sameBut hs ?_⟩
         rintro rfl
         exact hj (NK hN e1 (I.ok.inj _ _ _ e hc▸hi))
   · by_cases hcc:c'=c
     · subst hcc;exact⟨_,hc'⟩
     · obtain⟨w2,z2⟩:=I.cell y c' e
       exact⟨w2,z2.sameBut hs hcc⟩
   · obtain⟨e,n,ne,nf,d⟩:=I.pin p hp
     refine⟨(hs.2 p.1 ?_).trans e,n,ne,nf,d⟩
     intro q
     rw[q,hoc] at e
     have q':oc=p.2:=Option.some.inj e
     exact d w' (by rw[← q'];exact hocd)
theorem HM {M:Model}{A:Around}{E:Value->Shared->Prop}{i:Nat}{x:Str}{v:V}{u:Value}{Q:Unit->Shared->Prop}(I:Inv X pins σ H s) (hN:X.N.Nodup) (hi:X.N[i]?=some x) (hx:Loc X.env.scope x) (r:RelV v u)
   (h:∀s',Inv X pins (σ.set i (some v)) H s'->Q () s') (hf:X.fn x=true∨X.env.scope.names.lookup x=some .local:=by first | exact .inl rfl | exact .inr rfl | assumption):wpAny M A (storeName X.env x u) Q E s:=
 aC I hN hi hx r (fun s' I' _=>h s' I') hf
theorem Inv.call' {s':Shared}{ch:List Addr}(I:Inv X pins σ H s) (ho:s'.os=s.os) (u:Un (frs X.stack) ch H H' s.heap s'.heap) (hok:HOk X.prog X.w H' s'.heap) (hg:AllBare s'.gens)
   (hch:∀b∈ch,(b∈X.ex∨X.s₀.heap.objs.size<=b)/\b≠X.env.locals/\(∀x c,X.env.cells.lookup x=some c->c≠b)/\∀p∈X.pn++pins,p.1≠b):Inv X pins σ H' s':=by
 obtain⟨h',g',d',t',o'⟩:=s'
 have e:o'=s.os:=ho
 subst e
 exact I.call (g':=g') (t':=t') (d':=d') u hok hg hch
end
abbrev XK:=Value->Option Addr->Hp->Prop
abbrev St:=List (Option V)
abbrev VK:=V->Hp->Prop
abbrev TE:=St->Hp->VK->Prop
abbrev TT:=St->Hp->(Bool->Hp->Prop)->Prop
abbrev TA:=St->Hp->(List V->Hp->Prop)->Prop
structure Ends where
 nx:St->Hp->Prop
 rt:VK
 bk:St->Hp->Prop:=fun _ _=>False
 ct:St->Hp->Prop:=fun _ _=>False
abbrev TS:=Ends->St->Hp->Prop
def EP (X:Cx) (pins:List (Addr×Obj)) (σ:St) (Q:VK) (u:Value) (s':Shared):Prop:=∃v H',Inv X pins σ H' s'/\RelV v u/\Q v H'
def TP (X:Cx) (pins:List (Addr×Obj)) (σ:St) (Q:Bool->Hp->Prop) (b:Bool) (s':Shared):Prop:=∃H',Inv X pins σ H' s'/\Q b H'
def AP (X:Cx) (pins:List (Addr×Obj)) (σ:St) (Q:List V->Hp->Prop) (us:List Value) (s':Shared):Prop:=∃vs H',Inv X pins σ H' s'/\Vals vs us/\Q vs H'
def SP (X:Cx) (pins:List (Addr×Obj)) (D:Ends) (f:Flow) (s':Shared):Prop:=
 match f with
 | .next=>∃σ' H',Inv X pins σ' H' s'/\D.nx σ' H'
 | .brk=>∃σ' H',Inv X pins σ' H' s'/\D.bk σ' H'
 | .cont=>∃σ' H',Inv X pins σ' H' s'/\D.ct σ' H'
 | .ret u=>∃v σ' H',Inv X pins σ' H' s'/\RelV v u/\D.rt v H'
def PE (X:Cx) (e:Expr) (t:TE):Prop:=
 ∀(pins:List (Addr×Obj)) (s:Shared) (σ:St) (H:Hp) (Q:VK),Inv X pins σ H s->t σ H Q->wpAny (model X.prog X.w) X.A (eval e X.env) (EP X pins σ Q) X.xe s
def PT (X:Cx) (e:Expr) (t:TT):Prop:=
 ∀(pins:List (Addr×Obj)) (s:Shared) (σ:St) (H:Hp) (Q:Bool->Hp->Prop),Inv X pins σ H s->t σ H Q->wpAny (model X.prog X.w) X.A (isTrue e X.env (eval e X.env)) (TP X pins σ Q) X.xe s
def PW (X:Cx) (e:Expr) (t:TT):Prop:=
 ∀(whole:Sem Value) (pins:List (Addr×Obj)) (s:Shared) (σ:St) (H:Hp) (Q:Bool->Hp->Prop),Inv X pins σ H s->t σ H Q->wpAny (model X.prog X.w) X.A (isTrue e X.env whole) (TP X pins σ Q) X.xe s
theorem PW.pt {X:Cx}{e:Expr}{t:TT}(h:PW X e t):PT X e t:=h _
def PA (X:Cx) (es:List Expr) (t:TA):Prop:=
 ∀(pos:Pos) (pins:List (Addr×Obj)) (s:Shared) (σ:St) (H:Hp) (Q:List V->Hp->Prop),Inv X pins σ H s->t σ H Q->wpAny (model X.prog X.w) X.A (spliced (backTo pos (starEach es X.env))) (AP X pins σ Q) X.xe s
def PS (X:Cx) (st:Stmt) (t:TS):Prop:=
 ∀(pins:List (Addr×Obj)) (s:Shared) (σ:St) (H:Hp) (D:Ends),Inv X pins σ H s->t D σ H->wpAny (model X.prog X.w) X.A (exec st X.env) (SP X pins D) X.xe s
def PSs (X:Cx) (st:List Stmt) (t:TS):Prop:=
 ∀(pins:List (Addr×Obj)) (s:Shared) (σ:St) (H:Hp) (D:Ends),Inv X pins σ H s->t D σ H->wpAny (model X.prog X.w) X.A (execs st X.env) (SP X pins D) X.xe s
theorem thn {α:Type}{t:Sem α}{Q Q':α->Shared->Prop}{M:Model}{A:Around}{E:Value->Shared->Prop}{s:Shared}(h:wpAny M A t Q E s) (hQ:∀a s,Q a s->Q' a s):wpAny M A t Q' E s:=wpAny_mono h hQ fun _ _ x=>x
section
variable {X:Cx}
def aD (i:Nat):TE:=fun σ H Q=>∃v,σ[i]?=some (some v)/\Q v H
def tC (v:V):TE:=fun _ H Q=>Q v H
theorem cV {i:Nat}{x:Str}{pos:Pos}(hN:X.N[i]?=some x) (hv:Vis X.env.scope x) (hd:(x==("__debug__":Str))=false:=by decide) (hcd:(x==("__classdict__":Str))=false:=by decide):PE X (.Name x pos) (aD i):=by
 intro pins s σ H Q I h
 obtain⟨v,e,h⟩:=h
 obtain⟨m,hn,hl⟩:=I.loc
 obtain⟨u,r,l⟩:=hl i x v hN e hv
 have fin:EP X pins σ Q u s:=⟨v,H,I,r,h⟩
 rcases l with ⟨hk,hm⟩ | ⟨hk,c,hc,hcell⟩
 · exact wpAny_Name (wpAny_loadName_local I.ok.kind hk hn hm fin) hd
 · rcases hk with hk | hk
   · exact wpAny_Name (wpAny_loadName_cell I.ok.kind hk hc hcell fin) hd
   · exact wpAny_Name (wpAny_loadName_free I.ok.kind hk hc hcell fin hcd) hd
theorem oW {i j pos}:PE X (.Constant (.int i) j pos) (tC (.int i)):=fun _ _ _ H _ I h=>wpAny_Constant_int ⟨.int i,H,I.tok _,⟨_,rfl⟩,h⟩
theorem sU {b j pos}:PE X (.Constant (.bool b) j pos) (tC (.bl b)):=fun _ _ _ H _ I h=>Constant_bool ⟨.bl b,H,I,rfl,h⟩
theorem oX {j pos}:PE X (.Constant .none j pos) (tC .non):=fun _ _ _ H _ I h=>Constant_none ⟨.non,H,I,rfl,h⟩
theorem oY {x j pos}:PE X (.Constant (.str x) j pos) (tC (.str x)):=fun _ _ _ H _ I h=>Calls.Constant_str ⟨.str x,H,I.tok _,⟨_,rfl⟩,h⟩
def Gl (X:Cx) (x:Str):Prop:=X.env.kindOf x=some .globalImplicit
theorem IS {E:Value->Shared->Prop}{pins:List (Addr×Obj)}{s:Shared}{σ:St}{H:Hp}{x:Str}{u:Value}{pos:Pos}{Q:Value->Shared->Prop}(I:Inv X pins σ H s) (hg:Gl X x) (hm:X.mg x=some u) (h:Q u s)
   (hd:(x==("__debug__":Str))=false:=by decide):wpAny (model X.prog X.w) X.A (eval (.Name x pos) X.env) Q E s:=
 Calls.Name_function_global I.ok.kind hg (Calls.loadGlobal_global (by rw[I.ok.glob];exact I.mod.glob.keeps I.bk) hm h) hd
theorem JO {E:Value->Shared->Prop}{pins:List (Addr×Obj)}{s:Shared}{σ:St}{H:Hp}{x:Str}{u:Value}{pos:Pos}{Q:Value->Shared->Prop}(I:Inv X pins σ H s) (hg:Gl X x) (hm:X.mg x=none) (hv:bootBuiltins x=some u) (h:Q u s)
   (hn:x ≠ "__name__" := by decide) (hd:(x==("__debug__":Str))=false:=by decide):wpAny (model X.prog X.w) X.A (eval (.Name x pos) X.env) Q E s:=by
 obtain⟨mb,h1,h2⟩:=I.mod.blt
 exact Calls.Name_function_global I.ok.kind hg (Calls.loadGlobal_builtin (by rw[I.ok.glob];exact I.mod.glob.keeps I.bk) hm (by rw[I.ok.blt];exact h1.keeps I.bk) ((h2 x hn).trans hv) h) hd
theorem RT {x:Str}{v:V}{u:Value}{pos:Pos}(hg:Gl X x) (hm:X.mg x=some u) (r:RelV v u) (hd:(x==("__debug__":Str))=false:=by decide):PE X (.Name x pos) (tC v):=
 fun _ _ _ H _ I h=>IS I hg hm ⟨v,H,I,r,h⟩ hd
theorem G5 {x:Str}{v:V}{u:Value}{pos:Pos}(hg:Gl X x) (hm:X.mg x=none) (hv:bootBuiltins x=some u) (r:RelV v u) (hn:x ≠ "__name__" := by decide) (hd:(x==("__debug__":Str))=false:=by decide):PE X (.Name x pos) (tC v):=
 fun _ _ _ H _ I h=>JO I hg hm hv ⟨v,H,I,r,h⟩ hn hd
variable {a b:Expr}{ta tb:TE}{pos:Pos}
def PC (X:Cx) (op:CmpOp) (a b:Expr) (t:TE):Prop:=
 ∀(pins:List (Addr×Obj)) (s:Shared) (σ:St) (H:Hp) (Q:VK),Inv X pins σ H s->t σ H Q ->
   wpAny (model X.prog X.w) X.A (eval a X.env) (fun v s₁=>wpAny (model X.prog X.w) X.A (eval b X.env) (fun u s₂=>wpAny (model X.prog X.w) X.A (compareOp op v u) (EP X pins σ Q) X.xe s₂) X.xe s₁) X.xe s
def tB (t:TE):TT:=fun σ H Q=>t σ H fun x H1=>∃c,x = .bl c/\Q c H1
theorem oZ {op:CmpOp}{t:TE}(h:PC X op a b t) (h1:behindInMarks op b=false:=by first | exact nobehind _ (by decide) (by decide) | rfl):PE X (.Compare a [op] [b] pos) t:=fun pins s σ H Q I hw=>wpAny_Compare1 (h pins s σ H Q I hw) h1
theorem p6 {op:CmpOp}{t:TE}(h:PC X op a b t) (h1:behindInMarks op b=false:=by first | exact nobehind _ (by decide) (by decide) | rfl):PT X (.Compare a [op] [b] pos) (tB t):=by
 intro pins s σ H Q I hw
 refine wpAny_isTrue_Compare1 (thn (h pins s σ H _ I hw) fun v s1 h1=>thn h1 fun u s2 h2=>thn h2 fun c s3 ⟨x,H1,I1,r1,q1⟩=>?_) h1
 obtain⟨d,rfl,q⟩:=q1
 cases r1
 exact wpAny_truthy_bool ⟨H1,I1,q⟩
theorem p7 {e:Expr}{t:TE}(h:PE X e t) (he:∀whole,isTrue e X.env whole=(do let v ← whole;standAt e.pos;holding [v] (truthy v)):=by intro _;rfl):PT X e (tB t):=by
 intro pins s σ H Q I hw
 refine isTrue_plain (thn (h pins s σ H _ I hw) fun v s1 ⟨x,H1,I1,r1,q1⟩=>?_) (he _)
 obtain⟨d,rfl,q⟩:=q1
 cases r1
 exact wpAny_truthy_bool ⟨H1,I1,q⟩
variable {tA tB':TT}{rest:List Expr}
def sV (t u:TT):TT:=fun σ H Q=>t σ H fun c H1=>if c=true then u σ H1 Q else Q false H1
def tOr (t u:TT):TT:=fun σ H Q=>t σ H fun c H1=>if c=true then Q true H1 else u σ H1 Q
def sW (t:TT):TT:=fun σ H Q=>t σ H fun c H1=>Q (!c) H1
theorem pw_and1 (ha:PT X a tA):PW X (.BoolOp .And [a] pos) tA:=by
 intro wh pins s σ H Q I h
 refine isTrue_and (thn (ha pins s σ H Q I h) fun c s1 e=>?_)
 cases c with
 | true=>exact isTrue_and_nil e
 | false=>exact e
theorem pw_or1 (ha:PT X a tA):PW X (.BoolOp .Or [a] pos) tA:=by
 intro wh pins s σ H Q I h
 refine isTrue_or (thn (ha pins s σ H Q I h) fun c s1 e=>?_)
 cases c with
 | false=>exact isTrue_or_nil e
 | true=>exact e
theorem pw_and (ha:PT X a tA) (hb:PW X (.BoolOp .And (b::rest) pos) tB'):PW X (.BoolOp .And (a::b::rest) pos) (sV tA tB'):=by
 intro wh pins s σ H Q I h
 refine isTrue_and (thn (ha pins s σ H _ I h) fun c s1 ⟨H1,I1,q1⟩=>?_)
 cases c with
 | true=>exact hb wh pins s1 σ H1 Q I1 q1
 | false=>exact⟨H1,I1,q1⟩
theorem pw_or (ha:PT X a tA) (hb:PW X (.BoolOp .Or (b::rest) pos) tB'):PW X (.BoolOp .Or (a::b::rest) pos) (tOr tA tB'):=by
 intro wh pins s σ H Q I h
 refine isTrue_or (thn (ha pins s σ H _ I h) fun c s1 ⟨H1,I1,q1⟩=>?_)
 cases c with
 | true=>exact⟨H1,I1,q1⟩
 | false=>exact hb wh pins s1 σ H1 Q I1 q1
theorem p9 (ha:PT X a tA):PT X (.UnaryOp .Not a pos) (sW tA):=by
 intro pins s σ H Q I h
 exact isTrue_not (ha pins s σ H (fun c H1=>Q (!c) H1) I h)
def nP (ta tb:TE):TE:=fun σ H Q=>ta σ H fun x H1=>∃c,x = .bl c/\if c=true then tb σ H1 Q else Q (.bl false) H1
def sY (ta tb:TE):TE:=fun σ H Q=>ta σ H fun x H1=>∃c,x = .bl c/\if c=true then Q (.bl true) H1 else tb σ H1 Q
def nQ (ta:TE):TE:=fun σ H Q=>ta σ H fun x H1=>∃c,x = .bl c/\Q (.bl (!c)) H1
theorem pA {op} {t:TE}(h:PE X a t):PE X (.BoolOp op [a] pos) t:=fun pins s σ H Q I hw=>BoolOp_one (h pins s σ H Q I hw)
theorem pB (ha:PE X a ta) (hb:PE X (.BoolOp .And (b::rest) pos) tb):PE X (.BoolOp .And (a::b::rest) pos) (nP ta tb):=by
 intro pins s σ H Q I h
 refine BoolOp_and (thn (ha pins s σ H _ I h) fun v s1 ⟨x,H1,I1,r1,q1⟩=>?_)
 obtain⟨c,rfl,q1⟩:=q1
 cases r1
 refine wpAny_truthy_bool ?_
 cases c with
 | true=>exact hb pins s1 σ H1 Q I1 q1
 | false=>exact⟨.bl false,H1,I1,rfl,q1⟩
theorem sZ (ha:PE X a ta) (hb:PE X (.BoolOp .Or (b::rest) pos) tb):PE X (.BoolOp .Or (a::b::rest) pos) (sY ta tb):=by
 intro pins s σ H Q I h
 refine BoolOp_or (thn (ha pins s σ H _ I h) fun v s1 ⟨x,H1,I1,r1,q1⟩=>?_)
 obtain⟨c,rfl,q1⟩:=q1
 cases r1
 refine wpAny_truthy_bool ?_
 cases c with
 | false=>exact hb pins s1 σ H1 Q I1 q1
 | true=>exact⟨.bl true,H1,I1,rfl,q1⟩
theorem pC (ha:PE X a ta):PE X (.UnaryOp .Not a pos) (nQ ta):=by
 intro pins s σ H Q I h
 refine UnaryOp_ (thn (ha pins s σ H _ I h) fun v s1 ⟨x,H1,I1,r1,q1⟩=>?_)
 obtain⟨c,rfl,q1⟩:=q1
 cases r1
 exact not_of (wpAny_truthy_bool ⟨.bl (!c),H1,I1,rfl,q1⟩)
def tIf (t:TT) (ta tb:TE):TE:=fun σ H Q=>t σ H fun c H1=>if c=true then ta σ H1 Q else tb σ H1 Q
theorem cW {c:Expr}(hc:PT X c tA) (ha:PE X a ta) (hb:PE X b tb):PE X (.IfExp c a b pos) (tIf tA ta tb):=by
 intro pins s σ H Q I h
 refine wpAny_IfExp (thn (hc pins s σ H _ I h) fun d s1 ⟨H1,I1,q1⟩=>?_)
 cases d with
 | true=>exact ha pins s1 σ H1 Q I1 q1
 | false=>exact hb pins s1 σ H1 Q I1 q1
end
def SqL (K:Frg) (H:Hp) (a:Addr) (xs:List V):Prop:=
 Rd H a (.lst xs) ∨
   ∃(o:Obj) (its:Array Value) (n:Nat),K.lookup a=some o/\o.cls = .type "list" /\ o.dict=none/\o.data = .seq its n/\its.size<=sizeLine/\Vals xs its.toList
def SqT (K:Frg) (H:Hp) (a:Addr) (xs:List V):Prop:=
 Rd H a (.tup xs) ∨
   ∃(o:Obj) (its:Array Value) (n:Nat),K.lookup a=some o/\o.cls = .type "tuple" /\ o.data = .seq its n/\its.size<=sizeLine/\Vals xs its.toList
def vD:Value->Option V
 | .none=>some .non
 | .bool b=>some (.bl b)
 | .int i _=>some (.int i)
 | .str x _=>some (.str x)
 | .bytes b _=>some (.byt b)
 | .float b _=>some (.flt b)
 | .ref a=>some (.ref a)
 | .type n=>some (.ty n)
 | _=>none
theorem RelV.abs {x:V}{u:Value}(r:RelV x u):vD u=some x:=by
 cases x with
 | non=>cases r;rfl
 | bl _=>cases r;rfl
 | int _=>obtain⟨t,rfl⟩:=r;rfl
 | str _=>obtain⟨t,rfl⟩:=r;rfl
 | byt _=>obtain⟨t,rfl⟩:=r;rfl
 | flt _=>obtain⟨t,rfl⟩:=r;rfl
 | ref _=>cases r;rfl
 | ty _=>cases r;rfl
theorem RelV.inj {x y:V}{u:Value}(r:RelV x u) (q:RelV y u):x=y:=Option.some.inj (r.abs.symm.trans q.abs)
theorem Vals.inj:∀{xs ys:List V}{us:List Value},Vals xs us->Vals ys us->xs=ys
 | _,_,_,.nil,.nil=>rfl
 | _,_,_,.cons r t,.cons r' t'=>by rw[r.inj r',Vals.inj t t']
section
variable {X:Cx}{pins:List (Addr×Obj)}{σ:St}{H:Hp}{s:Shared}{a:Addr}{xs ys:List V}
theorem SqL.of {K:Frg}(h:H a=some (.lst xs)):SqL K H a xs:=.inl (.inl h)
theorem Inv.list (I:Inv X pins σ H s) (h:SqL X.K H a xs):∃its:List Value,Vals xs its/\PlainL s.heap a its.toArray/\xs.length<=sizeLine:=by
 rcases h with h | ⟨o,its,n,hk,hc,hd,hs,hz,r⟩
 · obtain⟨z,its,n,r,e⟩:=h.ok I.hok
   exact⟨its,r,⟨_,n,e,rfl,rfl,rfl⟩,z⟩
 · refine⟨its.toList,r,⟨o,n,I.kIn a o hk,hc,hd,by simpa using hs⟩,?_⟩
   have e:=r.length
   simp only[a4X] at e
   omega
theorem Inv.tuple (I:Inv X pins σ H s) (h:SqT X.K H a xs):∃its:List Value,Vals xs its/\IsTup s.heap a its.toArray/\xs.length<=sizeLine:=by
 rcases h with h | ⟨o,its,n,hk,hc,hs,hz,r⟩
 · obtain⟨z,its,r,p⟩:=h.ok I.hok
   exact⟨its,r,p,z⟩
 · refine⟨its.toList,r,⟨o,I.kIn a o hk,hc,n,by simpa using hs⟩,?_⟩
   have e:=r.length
   simp only[a4X] at e
   omega
theorem Inv.list_inj (I:Inv X pins σ H s) (h:SqL X.K H a xs) (h':SqL X.K H a ys):xs=ys:=by
 obtain⟨its,r,⟨o,n,e,_,_,d⟩,_⟩:=I.list h
 obtain⟨its',r',⟨o',n',e',_,_,d'⟩,_⟩:=I.list h'
 rw[e] at e';cases e'
 rw[d] at d'
 injection d' with d1 _
 have:its=its':=by simpa using congrArg Array.toList d1
 subst this
 exact r.inj r'
theorem Inv.tuple_inj (I:Inv X pins σ H s) (h:SqT X.K H a xs) (h':SqT X.K H a ys):xs=ys:=by
 obtain⟨its,r,⟨o,e,_,n,d⟩,_⟩:=I.tuple h
 obtain⟨its',r',⟨o',e',_,n',d'⟩,_⟩:=I.tuple h'
 rw[e] at e';cases e'
 rw[d] at d'
 injection d' with d1 _
 have:its=its':=by simpa using congrArg Array.toList d1
 subst this
 exact r.inj r'
end
abbrev Cx.wish (X:Cx) (E:Value->Shared->Prop):Cx:={ X with xe:=E }
abbrev Cx.nox (X:Cx):Cx:=X.wish fun _ _=>False
theorem Cx.Ok.wish {X:Cx}(ok:X.Ok) (E:Value->Shared->Prop):(X.wish E).Ok:=
 ⟨ok.mod,ok.kind,ok.glob,ok.blt,ok.above,ok.inj,ok.has,ok.cab,ok.hd,ok.frames,ok.stk,ok.exf,ok.bs,ok.bsz,ok.noex,ok.exfs,ok.funs,ok.frf⟩
theorem Cx.Ok.unwish {X:Cx}{E:Value->Shared->Prop}(ok:(X.wish E).Ok):X.Ok:=
 ⟨ok.mod,ok.kind,ok.glob,ok.blt,ok.above,ok.inj,ok.has,ok.cab,ok.hd,ok.frames,ok.stk,ok.exf,ok.bs,ok.bsz,ok.noex,ok.exfs,ok.funs,ok.frf⟩
section
variable {X:Cx}{pins:List (Addr×Obj)}{σ:St}{H:Hp}{s:Shared}{E:Value->Shared->Prop}
theorem Inv.wish (I:Inv X pins σ H s) (E:Value->Shared->Prop):Inv (X.wish E) pins σ H s:=⟨I.ok.wish E,I.os,I.bare,I.base,I.loc,I.cell,I.free,I.freeC,I.pin,I.hok,I.len⟩
theorem Inv.unwish (I:Inv (X.wish E) pins σ H s):Inv X pins σ H s:=⟨I.ok.unwish,I.os,I.bare,I.base,I.loc,I.cell,I.free,I.freeC,I.pin,I.hok,I.len⟩
theorem SP.unwish {D:Ends}{f:Flow}{s':Shared}(h:SP (X.wish E) pins D f s'):SP X pins D f s':=by
 cases f with
 | next=>obtain⟨σ',H',I,q⟩:=h;exact⟨σ',H',I.unwish,q⟩
 | brk=>obtain⟨σ',H',I,q⟩:=h;exact⟨σ',H',I.unwish,q⟩
 | cont=>obtain⟨σ',H',I,q⟩:=h;exact⟨σ',H',I.unwish,q⟩
 | ret u=>obtain⟨v,σ',H',I,r,q⟩:=h;exact⟨v,σ',H',I.unwish,r,q⟩
theorem PSs.nox {st:List Stmt}{t:TS}(h:PSs X.nox st t):PSs X st t:=fun pins s σ H D I hw=>
 wpAny_mono (h pins s σ H D (I.wish _) hw) (fun _ _ q=>q.unwish) fun _ _ z=>a6Z z
end
section
variable {X:Cx}{st:Stmt}{rest:List Stmt}{t u:TS}{e:Expr}{te:TE}{pos:Pos}
def nR:TS:=fun D σ H=>D.nx σ H
def jT (t u:TS):TS:=fun D σ H=>t { D with nx:=u D } σ H
theorem jU:PSs X [] nR:=fun _ _ σ H _ I h=>wpAny_execs_nil ⟨σ,H,I,h⟩
theorem U5 (h1:PS X st t) (h2:PSs X rest u):PSs X (st::rest) (jT t u):=by
 intro pins s σ H D I h
 refine wpAny_execs_cons (thn (h1 pins s σ H { D with nx:=u D } I h) fun f s1 q=>?_)
 cases f with
 | next=>
   obtain⟨σ',H',I',q⟩:=q
   exact h2 pins s1 σ' H' D I' q
 | ret v=>exact q
 | brk=>exact q
 | cont=>exact q
theorem RU (h1:PS X st t):PSs X [st] t:=by
 intro pins s σ H D I h
 refine wpAny_execs_cons (thn (h1 pins s σ H D I h) fun f s1 q=>?_)
 cases f with
 | next=>exact wpAny_execs_nil q
 | ret v=>exact q
 | brk=>exact q
 | cont=>exact q
theorem Inv.quiet {pins:List (Addr×Obj)}{σ:St}{H:Hp}{s:Shared}(I:Inv X pins σ H s):interactive X.env=false:=by simp[interactive,I.ok.kind]
def cX (te:TE):TS:=fun D σ H=>te σ H fun _ H1=>D.nx σ H1
theorem jV (he:PE X e te) (hs:swapsWith e none pos.line X.env=pure false:=by rfl):PS X (.Expr e pos) (cX te):=by
 intro pins s σ H D I h
 exact wpAny_Expr_any (thn (he pins s σ H _ I h) fun v s1 ⟨x,H1,I1,r1,q1⟩=>⟨σ,H1,I1,q1⟩) I.quiet hs
def t7 (te:TE):TS:=fun D σ H=>te σ H D.rt
theorem pD (he:PE X e te):PS X (.Return (some e) pos) (t7 te):=by
 intro pins s σ H D I h
 exact wpAny_Return_some (thn (he pins s σ H _ I h) fun v s1 ⟨x,H1,I1,r1,q1⟩=>⟨x,σ,H1,I1,r1,q1⟩)
def pE (c:TT) (t u:TS):TS:=fun D σ H=>c σ H fun b H1=>if b=true then t D σ H1 else u D σ H1
theorem t8 {c:Expr}{a b:List Stmt}{tc:TT}(hc:PT X c tc) (ha:PSs X a t) (hb:PSs X b u):PS X (.If c a b pos) (pE tc t u):=by
 intro pins s σ H D I h
 refine wpAny_If (thn (hc pins s σ H _ I h) fun d s1 ⟨H1,I1,q1⟩=>?_)
 cases d with
 | true=>exact ha pins s1 σ H1 D I1 q1
 | false=>exact hb pins s1 σ H1 D I1 q1
def pF:TS:=fun _ _ _=>False
theorem cY:PS X st pF:=fun _ _ _ _ _ _ h=>h.elim
end
abbrev TG:=V->St->Hp->(St->Hp->Prop)->Prop
abbrev TGs:=List V->St->Hp->(St->Hp->Prop)->Prop
def PG (X:Cx) (target:Expr) (t:TG):Prop:=
 ∀(pins:List (Addr×Obj)) (s:Shared) (σ:St) (H:Hp) (v:V) (u:Value) (Q:St->Hp->Prop),Inv X pins σ H s->RelV v u->t v σ H Q ->
   wpAny (model X.prog X.w) X.A (assign target X.env u) (fun _ s'=>∃σ' H',Inv X pins σ' H' s'/\Q σ' H') X.xe s
def PGs (X:Cx) (ts:List Expr) (t:TGs):Prop:=
 ∀(pins:List (Addr×Obj)) (s:Shared) (σ:St) (H:Hp) (vs:List V) (us:List Value) (Q:St->Hp->Prop),Inv X pins σ H s->Vals vs us->t vs σ H Q ->
   wpAny (model X.prog X.w) X.A (assignInOrder ((assignEach ts X.env).map (·.2)) us) (fun _ s'=>∃σ' H',Inv X pins σ' H' s'/\Q σ' H') X.xe s
abbrev pG:=V->V->V->Hp->(Hp->Prop)->Prop
def t9 (X:Cx) (t:pG):Prop:=
 ∀(pins:List (Addr×Obj)) (s:Shared) (σ:St) (H:Hp) (o i v:V) (ov iv u:Value) (Q:Hp->Prop),Inv X pins σ H s->RelV o ov->RelV i iv->RelV v u->t o i v H Q ->
   wpAny (model X.prog X.w) X.A (setItem ov iv u) (fun _ s'=>∃H',Inv X pins σ H' s'/\Q H') X.xe s
section
variable {X:Cx}{pos:Pos}
def NL (i:Nat):TG:=fun v σ H Q=>Q (σ.set i (some v)) H
theorem YJ {i:Nat}{x:Str}(hN:X.N.Nodup) (hi:X.N[i]?=some x) (hx:Loc X.env.scope x) (hf:X.fn x=true∨X.env.scope.names.lookup x=some .local:=by first | exact .inl rfl | exact .inr rfl | assumption):PG X (.Name x pos) (NL i):=by
 intro pins s σ H v u Q I r h
 exact wpAny_assign_Name (HM I hN hi hx r (fun s' I'=>⟨_,H,I',h⟩) hf)
def pH:TGs:=fun vs σ H Q=>vs=[]/\Q σ H
def YK (t:TG) (u:TGs):TGs:=fun vs σ H Q=>∃v r,vs=v::r/\t v σ H fun σ' H'=>u r σ' H' Q
theorem jW:PGs X [] pH:=by
 intro pins s σ H vs us Q I r h
 obtain⟨e,h⟩:=h
 subst e
 cases r
 exact assignInOrder_nil ⟨σ,H,I,h⟩
theorem cZ {e:Expr}{es:List Expr}{t:TG}{u:TGs}(h1:PG X e t) (h2:PGs X es u)
   (hs:(assignEach (e::es) X.env).map (·.2)=assign e X.env::(assignEach es X.env).map (·.2):=by rfl):PGs X (e::es) (YK t u):=by
 intro pins s σ H vs us Q I r h
 obtain⟨v,vr,e1,h⟩:=h
 subst e1
 cases r with
 | cons r rr=>
   rw[hs]
   refine assignInOrder_cons (thn (h1 pins s σ H _ _ _ I r h) fun _ s1 ⟨σ1,H1,I1,q1⟩=>?_)
   exact h2 pins s1 σ1 H1 _ _ Q I1 rr q1
def jX (K:Frg) (n:Nat) (t:TGs):TG:=fun v σ H Q=>∃a xs,v = .ref a/\SqT K H a xs/\xs.length=n/\t xs σ H Q
theorem dA {es:List Expr}{k:Nat}{t:TGs}{n:Nat}(hc:X.calm=true) (h:PGs X es t)
   (hn:(assignEach es X.env).length=n:=by rfl) (hst:(assignEach es X.env).findIdx? (·.1)=none:=by rfl):PG X (.Tuple es k pos) (jX X.K n t):=by
 intro pins s σ H v u Q I r hw
 obtain⟨a,xs,e1,hq,hl,hw⟩:=hw
 subst e1
 cases r
 obtain⟨its,rv,ht,hz⟩:=I.tuple hq
 refine assign_Tuple_tuple (I.ok.hd hc) ht (by simp[hn,← hl,rv.length]) hst fun h' hx=>?_
 have I1:Inv X pins σ H { s with heap:=h' }:=I.kept (t':=s.toks) fun b o e=>hx b o (zC (zM e)) e
 exact h pins _ σ H xs _ Q I1 (by simpa using rv) hw
def tD (to ti:TE) (t:pG):TG:=fun v σ H Q=>to σ H fun o H1=>ti σ H1 fun i H2=>t o i v H2 fun H3=>Q σ H3
theorem pI {o i:Expr}{to ti:TE}{t:pG}(ho:PE X o to) (hi:PE X i ti) (hs:t9 X t)
   (ha:∀v,assign (.Subscript o i pos) X.env v=(do
     let ov ← holding [v] (eval o X.env)
     let iv ← holding [v,ov] (eval i X.env)
     standAt pos
     holding [v,ov,iv] (setItem ov iv v)
     release [v,ov,iv] []):=by intro _;rfl):PG X (.Subscript o i pos) (tD to ti t):=by
 intro pins s σ H v u Q I r h
 rw[ha]
 refine zZ (wpAny_holding (thn (ho pins s σ H _ I h) fun ov s1 ⟨x,H1,I1,r1,q1⟩=>?_))
 refine zZ (wpAny_holding (thn (hi pins s1 σ H1 _ I1 q1) fun iv s2 ⟨y,H2,I2,r2,q2⟩=>?_))
 refine zZ (wpAny_standAt (zZ (wpAny_holding (thn (hs pins s2 σ H2 x y v ov iv u _ I2 r1 r2 r q2) fun _ s3 ⟨H3,I3,q3⟩=>?_))))
 exact wpAny_release ⟨σ,H3,I3,q3⟩
def jY (te:TE) (g:TG):TS:=fun D σ H=>te σ H fun x H1=>g x σ H1 D.nx
theorem RV {tg e:Expr}{te:TE}{g:TG}(he:PE X e te) (hg:PG X tg g) (hs:swapsWithSole [tg] e pos.line X.env=pure false:=by rfl) (hw:swappedStores [tg] e X.env=pure none:=by rfl)
   (h1:(assignEach [tg] X.env).map (·.2)=[assign tg X.env]:=by rfl):PS X (.Assign [tg] e pos) (jY te g):=by
 intro pins s σ H D I h
 refine wpAny_Assign_stores (thn (he pins s σ H _ I h) fun v s1 ⟨x,H1,I1,r1,q1⟩=>?_) hs hw
 rw[h1]
 exact thn (hg pins s1 σ H1 x v _ I1 r1 q1) fun _ s2 q=>q
theorem pJ {i:Nat}{x:Str}{e:Expr}{te:TE}{pos':Pos}(hN:X.N.Nodup) (hi:X.N[i]?=some x) (hx:Loc X.env.scope x) (he:PE X e te) (hs:swapsWith e (some (.Name x pos')) pos.line X.env=pure false:=by rfl) (hf:X.fn x=true∨X.env.scope.names.lookup x=some .local:=by first | exact .inl rfl | exact .inr rfl | assumption) :
   PS X (.Assign [.Name x pos'] e pos) (jY te (NL i)):=by
 intro pins s σ H D I h
 refine wpAny_Assign_Name (thn (he pins s σ H _ I h) fun v s1 ⟨y,H1,I1,r1,q1⟩=>?_) hs
 exact HM I1 hN hi hx r1 (fun s2 I2=>⟨_,H1,I2,q1⟩) hf
def tE (i j:Nat) (ta:TA):TS:=fun D σ H=>ta σ H fun vs H1=>∃v w,vs=[v,w]/\D.nx ((σ.set i (some v)).set j (some w)) H1
theorem dB {i j:Nat}{x y:Str}{a b:Expr}{ta:TA}{px py pt:Pos}{kt k2 pt2} (hc:X.calm=true) (hN:X.N.Nodup) (hi:X.N[i]?=some x) (hj:X.N[j]?=some y) (hij:i≠j)
   (hx:X.env.scope.names.lookup x=some .local) (hy:X.env.scope.names.lookup y=some .local) (ha:PA X [a,b] ta)
   (hw:swappedStores [.Tuple [.Name x px,.Name y py] kt pt] (.Tuple [a,b] k2 pt2) X.env=pure (some [x,y]))
   (hs:swapsWithSole [.Tuple [.Name x px,.Name y py] kt pt] (.Tuple [a,b] k2 pt2) pos.line X.env=pure false:=by rfl) :
   PS X (.Assign [.Tuple [.Name x px,.Name y py] kt pt] (.Tuple [a,b] k2 pt2) pos) (tE i j ta):=by
 intro pins s σ H D I h
 rw[exec_Assign_arm]
 refine zZ (wpAny_standAt ?_)
 rw[hs]
 refine zZ (zY ?_)
 rw[if_neg (by decide)]
 refine zZ (Tuple_ (thn (ha _ pins s σ H _ I h) fun us s1 ⟨vs,H1,I1,r1,q1⟩=>?_))
 obtain⟨v,w,e1,q1⟩:=q1
 subst e1
 obtain⟨u1,u2,rfl,rv,rw'⟩:∃u1 u2,us=[u1,u2]/\RelV v u1/\RelV w u2:=by
   cases r1 with
   | cons p q=>
     cases q with
     | cons p' q'=>
       cases q'
       exact⟨_,_,rfl,p,p'⟩
 refine xM ?_ (by show 2<=sizeLine;decide)
 have I2:Inv X pins σ H1 { s1 with heap:=s1.heap.push { cls:=.type "tuple", data:=.seq [u1,u2].toArray } }:=I1.kept (t':=s1.toks) fun b o e=>zW _ e
 rw[hw]
 refine zZ (zY ?_)
 show wpAny (model X.prog X.w) X.A (do rule "assign.swapped-stores";let items ← unpackItems (.ref s1.heap.objs.size) 2 none;assignInOrder [fun v=>bindName X.env y v,fun v=>bindName X.env x v] items.reverse;pure Flow.next) _ _ _
 refine zZ (wpAny_rule (zZ (unpackItems_tuple (items:=#[u1,u2]) (I.ok.hd hc) (IsTup.new s1.heap _) fun h' hx'=>?_)))
 have I3:=I2.kept (h':=h') (t':=s1.toks) fun b o e=>hx' b o (zC (zM e)) e
 show wpAny _ _ (assignInOrder [fun v=>bindName X.env y v,fun v=>bindName X.env x v] [u2,u1] >>= fun _=>pure Flow.next) _ _ _
 refine zZ (assignInOrder_cons (wpAny_bindName (HM I3 hN hj (.inl hy) rw' (fun s2 I4=>?_) (.inr hy))))
 refine assignInOrder_cons (wpAny_bindName (HM I4 hN hi (.inl hx) rv (fun s3 I5=>assignInOrder_nil (zY ?_)) (.inr hx)))
 rw[List.set_comm _ _ (a8J hij)] at I5
 exact⟨_,H1,I5,q1⟩
end
structure It where
 go:Nat->Hp->Prop
 yld:Nat->Hp->V->Hp->Prop
 stop:Nat->Hp->Prop
def JP (X:Cx) (pins:List (Addr×Obj)) (H:Hp) (b:Addr):Prop:=
 H b=none/\b≠X.env.locals/\b∉X.fs/\(b∈X.ex∨X.s₀.heap.objs.size<=b)/\(∀x c,X.env.cells.lookup x=some c->c≠b)/\∀p∈X.pn++pins,p.1≠b
theorem Inv.fpOk {X:Cx}{pins:List (Addr×Obj)}{σ:St}{H H':Hp}{s:Shared}{b:Addr}(I:Inv X pins σ H s) (hb:s.heap.objs.size<=b) (hn:H' b=none):JP X pins H' b:=by
 refine⟨hn,a5K (zP I.lt hb),I.nofs hb,.inr (zN I.sz hb),fun x c e z=>?_,fun p hp z=>?_⟩
 · obtain⟨v,q⟩:=I.cell x c e
   exact absurd (zP q.lt (by rw[z];exact hb)) (yF _)
 · exact absurd (zP (zM (I.pin p hp).1) (by rw[z];exact hb)) (yF _)
structure Turn (P:Program) (w:World) (K:Frg) (tg:Expr) (J:It) (fp:List Addr) (it:Addr) (tn:Nat->Heap->Prop):Prop where
 mem:it∈fp
 obj:∀i h,tn i h->∀b∈fp,∃o,h.get? b=some o/\∀v,o.data≠.cell v
 keep:∀i h h',tn i h->(∀b∈fp,∀o,h.get? b=some o->h'.get? b=some o)->tn i h'
 item:∀(X:Cx),X.prog=P->X.w=w->X.K=K->X.calm=true->∀(i:Nat) (pins:List (Addr×Obj)) (s:Shared) (σ:St) (H:Hp) (E:Value->Shared->Prop),Inv X pins σ H s->(∀b∈fp,JP X pins H b)->tn i s.heap->J.go i H ->
   wpAny (model P w) X.A (pyNext (.ref it)) (fun r s1=>∃u,r=some u /\
     wpAny (model P w) X.A (letOwnedTupleGo tg (.ref it) u) (fun _ s2=>∃x H',Inv X pins σ H' s2/\RelV x u/\J.yld i H x H'/\tn (i+1) s2.heap/\∀b∈fp,H' b=none) E s1) E s
 done:∀(X:Cx),X.prog=P->X.w=w->X.K=K->X.calm=true->∀(i:Nat) (pins:List (Addr×Obj)) (s:Shared) (σ:St) (H:Hp) (E:Value->Shared->Prop),Inv X pins σ H s->(∀b∈fp,JP X pins H b)->tn i s.heap->J.stop i H ->
   wpAny (model P w) X.A (pyNext (.ref it)) (fun r s1=>r=none/\Inv X pins σ H s1) E s
 self:∀(A:Around) (i:Nat) (s:Shared) (Q:Value->Shared->Prop) (E:Value->Shared->Prop),tn i s.heap->Q (.ref it) s->wpAny (model P w) A (pyIter (.ref it)) Q E s
abbrev TI:=St->Hp->(It->Hp->Prop)->Prop
def PIE (X:Cx) (pins:List (Addr×Obj)) (σ:St) (tg:Expr) (R:It->Hp->Prop) (itv:Value) (s2:Shared):Prop:=
 ∃(it:Addr) (fp:List Addr) (tn:Nat->Heap->Prop) (J:It) (H':Hp),itv = .ref it/\Inv X pins σ H' s2/\Turn X.prog X.w X.K tg J fp it tn/\tn 0 s2.heap/\(∀b∈fp,JP X pins H' b)/\R J H'
def PI (X:Cx) (tg iter:Expr) (wi:TI):Prop:=
 ∀(pins:List (Addr×Obj)) (s:Shared) (σ:St) (H:Hp) (R:It->Hp->Prop),Inv X pins σ H s->wi σ H R ->
   wpAny (model X.prog X.w) X.A (eval iter X.env) (fun v s1=>wpAny (model X.prog X.w) X.A (pyIter v) (PIE X pins σ tg R) X.xe s1) X.xe s
theorem YL {M:Model}{A:Around}{E:Value->Shared->Prop}{s:Shared}{tg:Expr}{it:Addr}{u:Value}{o:Obj}{n:String}{vs:Array Value}{Q:Unit->Shared->Prop}(ho:s.heap.get? it=some o) (hc:o.cls = .type n) (hd:o.data = .fields vs)
   (hn:["enumerate", "zip", "dict_itemiterator", "dict_reverseitemiterator", "odict_iterator", "itertools.zip_longest", "itertools.pairwise"].contains n=false) (hQ:Q () s):wpAny M A (letOwnedTupleGo tg (.ref it) u) Q E s:=by
 unfold letOwnedTupleGo
 cases tg <;> first
   | exact zY hQ
   | (cases u <;> first
       | exact zY hQ
       | (refine zZ (wpAny_load ho ?_)
          rw[hc,hd]
          show wpAny M A (if (["enumerate", "zip", "dict_itemiterator", "dict_reverseitemiterator", "odict_iterator", "itertools.zip_longest", "itertools.pairwise"].contains n&&vs[0]?==some (rawInt _))=true then _ else _) Q E s
          rw[if_neg (by intro h;rw[hn,Bool.false_and] at h;cases h)]
          exact zY hQ))
def Itl (K:Frg) (a:Addr):It:=
 ⟨fun i H=>∃xs x,SqL K H a xs/\xs[i]?=some x,fun i H x H'=>H'=H/\∀xs,SqL K H a xs->xs[i]?=some x,fun i H=>∃xs,SqL K H a xs/\xs.length<=i⟩
def Itt (K:Frg) (a:Addr):It:=
 ⟨fun i H=>∃xs x,SqT K H a xs/\xs[i]?=some x,fun i H x H'=>H'=H/\∀xs,SqT K H a xs->xs[i]?=some x,fun i H=>∃xs,SqT K H a xs/\xs.length<=i⟩
def Itr (lo:Int) (n:Nat):It:=⟨fun i _=>i < n,fun i H x H'=>H'=H/\x = .int (lo+i),fun i _=>n<=i⟩
theorem aE {P:Program}{w:World}{K:Frg}{tg:Expr}(a it:Addr):Turn P w K tg (Itl K a) [it] it (fun i h=>h.IsListIter it a i) where
 mem:=by simp
 obj:=fun i h st b hb=>by
   have e:b=it:=by simpa using hb
   subst e
   obtain⟨o,e,c,d⟩:=st
   exact⟨o,e,fun v z=>by rw[d] at z;cases z⟩
 keep:=fun i h h' st k=>st.at fun o e=>k it (by simp) o e
 item:=by
   intro X hP hw hK hc i pins s σ H E I hf st hg
   subst hP hw hK
   obtain⟨xs,x,hq,hx⟩:=hg
   obtain⟨its,rv,p,hz⟩:=I.list hq
   obtain⟨u,hu,ru⟩:=rv.get hx
   obtain⟨f0,f1,f2,f3,f4,f5⟩:=hf it (by simp)
   refine wpAny_pyNext_list_item st p.isList (x:=u) (by simpa using hu) fun h' st' sb=>?_
   have I1:Inv X pins σ H { s with heap:=h' }:=I.turned (t':=s.toks) (fun b o hb e=>(sb.2 b hb).trans e) f0 f1 f3 f4 f5
   obtain⟨o,e,c,d⟩:=id st'
   exact⟨u,rfl,YL (s:={ s with heap:=h' }) e c d (by decide) ⟨x,H,I1,ru,⟨rfl,fun ys hy=>by rw[I.list_inj hy hq];exact hx⟩,st',fun b hb=>(hf b hb).1⟩⟩
 done:=by
   intro X hP hw hK hc i pins s σ H E I hf st hg
   subst hP hw hK
   obtain⟨xs,hq,hx⟩:=hg
   obtain⟨its,rv,p,hz⟩:=I.list hq
   obtain⟨f0,f1,f2,f3,f4,f5⟩:=hf it (by simp)
   have hl:=rv.length
   exact wpAny_pyNext_list_end (I.ok.hd hc) st p.isList (by simp;omega) fun h' eb=>⟨rfl,I.turned (t':=s.toks) (fun b o hb e=>eb b o hb e) f0 f1 f3 f4 f5⟩
 self:=fun _ _ _ _ _ st h=>wpAny_pyIter_listiter st h
theorem WO {P:Program}{w:World}{K:Frg}{tg:Expr}(a it:Addr):Turn P w K tg (Itt K a) [it] it (fun i h=>h.IsTupleIter it a i) where
 mem:=by simp
 obj:=fun i h st b hb=>by
   have e:b=it:=by simpa using hb
   subst e
   obtain⟨o,e,c,d⟩:=st
   exact⟨o,e,fun v z=>by rw[d] at z;cases z⟩
 keep:=fun i h h' st k=>st.at fun o e=>k it (by simp) o e
 item:=by
   intro X hP hw hK hc i pins s σ H E I hf st hg
   subst hP hw hK
   obtain⟨xs,x,hq,hx⟩:=hg
   obtain⟨its,rv,p,hz⟩:=I.tuple hq
   obtain⟨u,hu,ru⟩:=rv.get hx
   obtain⟨f0,f1,f2,f3,f4,f5⟩:=hf it (by simp)
   refine wpAny_pyNext_tuple_item st (show s.heap.IsTuple a its.toArray from p) (x:=u) (by simpa using hu) fun h' st' sb=>?_
   have I1:Inv X pins σ H { s with heap:=h' }:=I.turned (t':=s.toks) (fun b o hb e=>(sb.2 b hb).trans e) f0 f1 f3 f4 f5
   obtain⟨o,e,c,d⟩:=id st'
   exact⟨u,rfl,YL (s:={ s with heap:=h' }) e c d (by decide) ⟨x,H,I1,ru,⟨rfl,fun ys hy=>by rw[I.tuple_inj hy hq];exact hx⟩,st',fun b hb=>(hf b hb).1⟩⟩
 done:=by
   intro X hP hw hK hc i pins s σ H E I hf st hg
   subst hP hw hK
   obtain⟨xs,hq,hx⟩:=hg
   obtain⟨its,rv,p,hz⟩:=I.tuple hq
   obtain⟨f0,f1,f2,f3,f4,f5⟩:=hf it (by simp)
   have hl:=rv.length
   exact wpAny_pyNext_tuple_end (I.ok.hd hc) st (show s.heap.IsTuple a its.toArray from p) (by simp;omega) fun h' eb=>⟨rfl,I.turned (t':=s.toks) (fun b o hb e=>eb b o hb e) f0 f1 f3 f4 f5⟩
 self:=fun _ _ _ _ _ st h=>wpAny_pyIter_tupleiter st h
theorem WP {P:Program}{w:World}{K:Frg}{tg:Expr}(it:Addr) (lo:Int) (n:Nat):Turn P w K tg (Itr lo n) [it] it (fun i h=>IsRangeIter h it (lo+(i:Nat)*1) ((n:Int) - (i:Nat)) 1) where
 mem:=by simp
 obj:=fun i h st b hb=>by
   have e:b=it:=by simpa using hb
   subst e
   exact⟨_,st,fun v z=>by
     have z':Data.fields _=Data.cell v:=z
     cases z'⟩
 keep:=fun i h h' st k=>k it (by simp) _ st
 item:=by
   intro X hP hw hK hc i pins s σ H E I hf st hg
   subst hP hw hK
   obtain⟨f0,f1,f2,f3,f4,f5⟩:=hf it (by simp)
   have W:=Walks.range (prog:=X.prog) (w:=X.w) (I.ok.hd hc) it lo 1 n
   refine W.item i s _ _ hg st fun v h' tk hv st' kk=>?_
   obtain⟨t,rfl⟩:=hv
   have I1:Inv X pins σ H { s with heap:=h',toks:=tk }:=I.turned (fun b o hb e=>kk b o (by simpa using hb) e) f0 f1 f3 f4 f5
   refine⟨_,rfl,YL (s:={ s with heap:=h',toks:=tk }) (n:= "range_iterator") st' rfl rfl (by decide) ⟨.int (lo+i),H,I1,⟨t,?_⟩,⟨rfl,rfl⟩,st',fun b hb=>(hf b hb).1⟩⟩
   rw[Int.mul_one]
 done:=by
   intro X hP hw hK hc i pins s σ H E I hf st hg
   subst hP hw hK
   obtain⟨f0,f1,f2,f3,f4,f5⟩:=hf it (by simp)
   exact wpAny_pyNext_range_end (I.ok.hd hc) st (by have:n<=i:=hg;omega) fun h' eb=>⟨rfl,I.turned (t':=s.toks) (fun b o hb e=>eb b o hb e) f0 f1 f3 f4 f5⟩
 self:=fun _ _ _ _ _ st h=>wpAny_pyIter_rangeiter st h
section
variable {X:Cx}{tg:Expr}
theorem dC {pins:List (Addr×Obj)}{σ:St}{H:Hp}{s:Shared}{R:It->Hp->Prop}{E:Value->Shared->Prop}{lo hi:Int}{t u v:Tok}{tk:Nat}(I:Inv X pins σ H s) (h1 : -(2 ^ 62)<=lo) (h2:lo < 2 ^ 62) (h3 : -(2 ^ 62)<=hi) (h4:hi < 2 ^ 62)
   (q:R (Itr lo (hi - lo).toNat) H):wpAny (model X.prog X.w) X.A (pyIter (.ref s.heap.objs.size)) (PIE X pins σ tg R) E { s with heap:=s.heap.push { cls:=.type "range", data:=.fields #[.int lo t,.int hi u,.int 1 v] },toks:=tk }:=by
 refine wpAny_pyIter_range (IsRange.new ..) (small_one h1 h2 h3 h4) ?_
 have I1:Inv X pins σ H { s with heap:=s.heap.push { cls:=.type "range", data:=.fields #[.int lo t,.int hi u,.int 1 v] },toks:=tk }:=I.kept fun b o e=>zW _ e
 refine⟨(s.heap.push { cls:=.type "range", data:=.fields #[.int lo t,.int hi u,.int 1 v] }).objs.size,[(s.heap.push { cls:=.type "range", data:=.fields #[.int lo t,.int hi u,.int 1 v] }).objs.size],_,_,H,rfl,
   I1.kept (t':=tk) fun b o e=>zW _ e,WP _ lo (hi - lo).toNat,?_,fun b hb=>?_,q⟩
 · have e1:lo+((0:Nat):Int)*1=lo:=by simp
   have e2:(((hi - lo).toNat:Nat):Int) - ((0:Nat):Int)=Builtin.Range.rangeSize lo hi 1:=by rw[rangeSize_one];split <;> omega
   show IsRangeIter _ _ (lo+((0:Nat):Int)*1) ((((hi - lo).toNat:Nat):Int) - ((0:Nat):Int)) 1
   rw[e1,e2]
   exact yZ _ rfl
 · have e:b=(s.heap.push { cls:=.type "range", data:=.fields #[.int lo t,.int hi u,.int 1 v] }).objs.size:=by simpa using hb
   subst e
   exact I1.fpOk (zR _) (I1.hok.fresh (zR _))
def nS (ta:TA):TI:=fun σ H R=>ta σ H fun vs H1=>∃j:Int,vs=[.int j]/\-(2 ^ 62)<=j/\j < 2 ^ 62/\R (Itr 0 j.toNat) H1
theorem aF {a:Expr}{ta:TA}{p pos:Pos}(hg:Gl X "range") (hm:X.mg "range"=none) (ha:PA X [a] ta) (hs:starEach [a] X.env=[(false,eval a X.env)]:=by rfl):PI X tg (.Call (.Name "range" p) [a] [] pos) (nS ta):=by
 intro pins s σ H R I h
 refine Call_ (JO I hg hm boot_range (xH (thn (ha pos pins s σ H _ I h) fun us s1 ⟨vs,H1,I1,r1,q1⟩=>?_) hs rfl))
 obtain⟨j,e,q1,q2,q⟩:=q1
 subst e
 cases r1 with
 | cons r rr=>
   cases rr
   obtain⟨t,rfl⟩:=r
   exact call_range_1 (dC I1 (by omega) (by omega) q1 q2 (by simpa using q))
def tF (wi:TI) (g:TG) (tb:TS):TS:=fun D σ H=>wi σ H fun J H1=>∃W:Nat->Nat->St->Hp->Prop,(∃m,W 0 m σ H1)/\∀i m σ H,W i m σ H ->
 (J.stop i H/\D.nx σ H)∨(J.go i H/\∃N:St->Hp->Prop,(∀σ' H',N σ' H'->∃m',m' < m/\W (i+1) m' σ' H')/\∀x H',J.yld i H x H'->g x σ H' fun σ2 H2=>tb { D with nx:=N,ct:=N,bk:=D.nx } σ2 H2)
def L7 (fp:List Addr) (h:Heap):List (Addr×Obj):=fp.filterMap fun b=>(h.get? b).map fun o=>(b,o)
theorem D4 {fp:List Addr}{h:Heap}{b:Addr}{o:Obj}(hb:b∈fp) (e:h.get? b=some o):(b,o)∈L7 fp h:=List.mem_filterMap.mpr ⟨b,hb,by rw[e];rfl⟩
theorem aG {fp:List Addr}{h:Heap}{p:Addr×Obj}(hp:p∈L7 fp h):p.1∈fp/\h.get? p.1=some p.2:=by
 obtain⟨b,hb,e⟩:=List.mem_filterMap.mp hp
 cases q:h.get? b with
 | none=>rw[q] at e;cases e
 | some o=>
   rw[q] at e
   have e':(b,o)=p:=Option.some.inj e
   subst e'
   exact⟨hb,q⟩
theorem Inv.pinned {pins:List (Addr×Obj)}{σ:St}{H:Hp}{s:Shared}{fp:List Addr}(I:Inv X pins σ H s) (hf:∀b∈fp,JP X pins H b) (ho:∀b∈fp,∃o,s.heap.get? b=some o/\∀v,o.data≠.cell v):Inv X (pins++L7 fp s.heap) σ H s:=
 I.pins_of fun p hp=>(yW.mp hp).elim (fun z=>I.pin p (zB _ z)) fun z=>by
   obtain⟨hb,e⟩:=aG z
   obtain⟨f0,f1,f2,_⟩:=hf p.1 hb
   obtain⟨o,e',d⟩:=ho p.1 hb
   rw[e] at e';cases e'
   exact⟨e,f0,f1,f2,d⟩
theorem Inv.unpinned {pins pl:List (Addr×Obj)}{σ:St}{H:Hp}{s:Shared}(I:Inv X (pins++pl) σ H s):Inv X pins σ H s:=I.pins_of fun p hp=>I.pin p (zB _ (zA _ hp))
theorem pK {iter:Expr}{body:List Stmt}{wi:TI}{g:TG}{tb:TS}{pos:Pos}(hp:PassesOwn (model X.prog X.w) X.A X.env X.xe) (hc:X.calm=true) (hi:PI X tg iter wi) (hg:PG X tg g) (hb:PSs X body tb)
   (hs:∀x,foldedSetIterable iter X.env x=pure x:=by intro _;rfl):PS X (.For tg iter body [] pos) (tF wi g tb):=by
 intro pins s σ H D I h
 refine wpAny_For (thn (hi pins s σ H _ I h) fun v s1 h1=>thn h1 fun itv s2 h2=>?_) hs
 obtain⟨it,fp,tn,J,H2,e,I2,T,st2,f2,W,⟨m0,w0⟩,turn⟩:=h2
 subst e
 have stat:∀{H':Hp},(∀b∈fp,H' b=none)->∀b∈fp,JP X pins H' b:=fun hn b hb=>⟨hn b hb,(f2 b hb).2⟩
 refine codeAny_forLoop_any (fun n s'=>∃i σ' H',Inv X pins σ' H' s'/\tn i s'.heap/\(∀b∈fp,H' b=none)/\W i n σ' H') ?_ m0 ⟨0,σ,H2,I2,st2,fun b hb=>(f2 b hb).1,w0⟩
 rintro n s3 ⟨i,σ3,H3,I3,st3,fr3,w3⟩
 rcases turn i n σ3 H3 w3 with ⟨stop,qn⟩ | ⟨go,N,hN,step⟩
 · refine wpAny_passesOwn hp (thn (T.done X rfl rfl rfl hc i pins s3 σ3 H3 X.xe I3 (stat fr3) st3 stop) fun r s4 ⟨hr,I4⟩=>?_)
   subst hr
   exact wpAny_execs_nil ⟨σ3,H3,I4,qn⟩
 · refine wpAny_passesOwn hp (thn (T.item X rfl rfl rfl hc i pins s3 σ3 H3 X.xe I3 (stat fr3) st3 go) fun r s4 ⟨u,hr,h4⟩=>?_)
   subst hr
   refine wpAny_passesOwn hp (thn h4 fun _ s5 ⟨x,H5,I5,r5,y5,st5,fr5⟩=>?_)
   have I5':=I5.pinned (stat fr5) (T.obj _ _ st5)
   refine wpAny_passesOwn hp (thn (hg _ s5 σ3 H5 x u _ I5' r5 (step x H5 y5)) fun _ s6 ⟨σ6,H6,I6,q6⟩=>?_)
   refine wpAny_passesOwn hp (thn (hb _ s6 σ6 H6 _ I6 q6) fun f s7 q7=>?_)
   have again:∀{σ7:St}{H7:Hp},Inv X (pins++L7 fp s5.heap) σ7 H7 s7->N σ7 H7->∃m,m < n/\∃i σ' H',Inv X pins σ' H' s7/\tn i s7.heap/\(∀b∈fp,H' b=none)/\W i m σ' H':=fun {σ7 H7} I7 n7=>by
     obtain⟨m',hm,w7⟩:=hN σ7 H7 n7
     refine⟨m',hm,i+1,σ7,H7,I7.unpinned,T.keep _ _ _ st5 fun b hb o e=>(I7.pin (b,o) (zB _ (zB _ (D4 hb e)))).1,fun b hb=>?_,w7⟩
     obtain⟨o,e,d⟩:=T.obj _ _ st5 b hb
     exact(I7.pin (b,o) (zB _ (zB _ (D4 hb e)))).2.1
   cases f with
   | next=>obtain⟨σ7,H7,I7,n7⟩:=q7;exact again I7 n7
   | cont=>obtain⟨σ7,H7,I7,n7⟩:=q7;exact again I7 n7
   | brk=>obtain⟨σ7,H7,I7,q7⟩:=q7;exact⟨σ7,H7,I7.unpinned,q7⟩
   | ret v=>obtain⟨x7,σ7,H7,I7,r7,q7⟩:=q7;exact⟨x7,σ7,H7,I7.unpinned,r7,q7⟩
end
abbrev R2:=V->V->Hp->VK->Prop
def OpR (X:Cx) (f:Value->Value->Sem Value) (r:R2):Prop:=
 ∀(pins:List (Addr×Obj)) (s:Shared) (σ:St) (H:Hp) (x y:V) (v u:Value) (Q:VK),Inv X pins σ H s->RelV x v->RelV y u->r x y H Q ->
   wpAny (model X.prog X.w) X.A (f v u) (EP X pins σ Q) X.xe s
def UnR (X:Cx) (f:Value->Sem Value) (r:V->Hp->VK->Prop):Prop:=
 ∀(pins:List (Addr×Obj)) (s:Shared) (σ:St) (H:Hp) (x:V) (v:Value) (Q:VK),Inv X pins σ H s->RelV x v->r x H Q ->
   wpAny (model X.prog X.w) X.A (f v) (EP X pins σ Q) X.xe s
def B2 (X:Cx) (f:Value) (r:List V->Hp->VK->Prop):Prop:=
 ∀(pins:List (Addr×Obj)) (s:Shared) (σ:St) (H:Hp) (xs:List V) (us:List Value) (Q:VK),Inv X pins σ H s->Vals xs us->r xs H Q ->
   wpAny (model X.prog X.w) X.A (call f us) (EP X pins σ Q) X.xe s
def tOp (r:R2) (ta tb:TE):TE:=fun σ H Q=>ta σ H fun x H1=>tb σ H1 fun y H2=>r x y H2 Q
def tUn (r:V->Hp->VK->Prop) (ta:TE):TE:=fun σ H Q=>ta σ H fun x H1=>r x H1 Q
def rI (C:Int->Int->Prop) (g:Int->Int->V):R2:=fun x y H Q=>∃i j,x = .int i/\y = .int j/\C i j/\Q (g i j) H
def rI0 (g:Int->Int->V):R2:=fun x y H Q=>∃i j,x = .int i/\y = .int j/\Q (g i j) H
def rU (g:Int->V):V->Hp->VK->Prop:=fun x H Q=>∃i,x = .int i/\Q (g i) H
section
variable {X:Cx}{a b c:Expr}{ta tb tc:TE}{pos:Pos}
theorem pL (ha:PE X a ta) (hb:PE X b tb) {pins:List (Addr×Obj)}{s:Shared}{σ:St}{H:Hp}{R:V->V->Hp->Prop}(I:Inv X pins σ H s)
   (h:ta σ H fun x H1=>tb σ H1 fun y H2=>R x y H2) {Q:Value->Shared->Prop}{f:Value->Value->Sem Value}
   (hf:∀v u s2 x y H2,Inv X pins σ H2 s2->RelV x v->RelV y u->R x y H2->wpAny (model X.prog X.w) X.A (f v u) Q X.xe s2) :
   wpAny (model X.prog X.w) X.A (eval a X.env) (fun v s₁=>wpAny (model X.prog X.w) X.A (eval b X.env) (fun u s₂=>wpAny (model X.prog X.w) X.A (f v u) Q X.xe s₂) X.xe s₁) X.xe s:=by
 refine thn (ha pins s σ H _ I h) fun v s1 ⟨x,H1,I1,r1,q1⟩=>?_
 refine thn (hb pins s1 σ H1 _ I1 q1) fun u s2 ⟨y,H2,I2,r2,q2⟩=>?_
 exact hf v u s2 x y H2 I2 r1 r2 q2
theorem NM {op:Operator}{r:R2}(ho:OpR X (binaryOp op) r) (ha:PE X a ta) (hb:PE X b tb):PE X (.BinOp a op b pos) (tOp r ta tb):=by
 intro pins s σ H Q I h
 exact wpAny_BinOp (pL ha hb I h fun v u s2 x y H2 I2 rx ry q=>ho pins s2 σ H2 x y v u Q I2 rx ry q)
theorem tG {op:UnaryOp}{r:V->Hp->VK->Prop}(ho:UnR X (unaryOp op) r) (ha:PE X a ta):PE X (.UnaryOp op a pos) (tUn r ta):=by
 intro pins s σ H Q I h
 exact UnaryOp_ (thn (ha pins s σ H _ I h) fun v s1 ⟨x,H1,I1,r1,q1⟩=>ho pins s1 σ H1 x v Q I1 r1 q1)
theorem opI {f:Value->Value->Sem Value}{C:Int->Int->Prop}{g:Int->Int->Int}
   (rule:∀(i j:Int) (t u:Tok) (s:Shared) (Q:Value->Shared->Prop) (E:Value->Shared->Prop),C i j->Q (.int (g i j) s.toks) { s with toks:=s.toks+1 }->wpAny (model X.prog X.w) X.A (f (.int i t) (.int j u)) Q E s) :
   OpR X f (rI C fun i j=>.int (g i j)):=by
 intro pins s σ H x y v u Q I rx ry h
 obtain⟨i,j,rfl,rfl,hc,q⟩:=h
 obtain⟨t,rfl⟩:=rx
 obtain⟨t',rfl⟩:=ry
 exact rule i j t t' s _ _ hc ⟨.int (g i j),H,I.tok _,⟨_,rfl⟩,q⟩
theorem tH {f:Value->Value->Sem Value}{g:Int->Int->Int}
   (rule:∀(i j:Int) (t u:Tok) (s:Shared) (Q:Value->Shared->Prop) (E:Value->Shared->Prop),Q (.int (g i j) s.toks) { s with toks:=s.toks+1 }->wpAny (model X.prog X.w) X.A (f (.int i t) (.int j u)) Q E s) :
   OpR X f (rI0 fun i j=>.int (g i j)):=by
 intro pins s σ H x y v u Q I rx ry h
 obtain⟨i,j,rfl,rfl,q⟩:=h
 obtain⟨t,rfl⟩:=rx
 obtain⟨t',rfl⟩:=ry
 exact rule i j t t' s _ _ ⟨.int (g i j),H,I.tok _,⟨_,rfl⟩,q⟩
theorem vE {f:Value->Value->Sem Value}{g:Int->Int->Bool}
   (rule:∀(i j:Int) (t u:Tok) (s:Shared) (Q:Value->Shared->Prop) (E:Value->Shared->Prop),Q (.bool (g i j)) s->wpAny (model X.prog X.w) X.A (f (.int i t) (.int j u)) Q E s) :
   OpR X f (rI0 fun i j=>.bl (g i j)):=by
 intro pins s σ H x y v u Q I rx ry h
 obtain⟨i,j,rfl,rfl,q⟩:=h
 obtain⟨t,rfl⟩:=rx
 obtain⟨t',rfl⟩:=ry
 exact rule i j t t' s _ _ ⟨.bl (g i j),H,I,rfl,q⟩
def tI (i j:Int):Prop:=0 < j/\j < 1073741824
def tJ (i j:Int):Prop:=0<=j/\j<=1000000/\i.natAbs < 2 ^ 64
theorem pM:OpR X (binaryOp .Add) (rI0 fun i j=>.int (i+j)):=tH fun _ _ _ _ _ _ _ q=>add_int q
theorem pN:OpR X (binaryOp .Sub) (rI0 fun i j=>.int (i - j)):=tH fun _ _ _ _ _ _ _ q=>sub_int q
theorem pO:OpR X (binaryOp .Mod) (rI (fun _ j=>0 < j) fun i j=>.int (i % j)):=opI fun i j _ _ _ _ _ hc q=>by
 have h1:(0:Int) < j:=hc
 exact mod_int' (by omega) (by rw[Int.fmod_eq_emod_of_nonneg i (by omega)];exact q)
theorem pP:OpR X (binaryOp .Pow) (rI tJ fun i j=>.int (i ^ j.toNat)):=opI fun _ _ _ _ _ _ _ hc q=>pow_int_small hc.1 hc.2.1 hc.2.2 q
theorem unI {f:Value->Sem Value}{g:Int->Int}
   (rule:∀(i:Int) (t:Tok) (s:Shared) (Q:Value->Shared->Prop) (E:Value->Shared->Prop),Q (.int (g i) s.toks) { s with toks:=s.toks+1 }->wpAny (model X.prog X.w) X.A (f (.int i t)) Q E s) :
   UnR X f (rU fun i=>.int (g i)):=by
 intro pins s σ H x v Q I rx h
 obtain⟨i,rfl,q⟩:=h
 obtain⟨t,rfl⟩:=rx
 exact rule i t s _ _ ⟨.int (g i),H,I.tok _,⟨_,rfl⟩,q⟩
theorem pQ:UnR X (unaryOp .USub) (rU fun i=>.int (-i)):=unI fun _ _ _ _ _ q=>neg_int q
theorem WQ {pins:List (Addr×Obj)}{σ:St}{H:Hp}{s:Shared}{Q:VK}{k k':Bool}(I:Inv X pins σ H s) (q:Q (.bl k) H) (e:k=k'):EP X pins σ Q (.bool k') s:=by
 subst e
 exact⟨.bl k,H,I,rfl,q⟩
theorem YM:OpR X (compareOp .LtE) (rI0 fun i j=>.bl (decide (i<=j))):=vE fun _ _ _ _ _ _ _ q=>le_int q
theorem aH:OpR X (compareOp .In) (fun x y H Q=>∃i j,x = .str i/\y = .str j/\Q (.bl (!(a5Q j i 0 j.length 1).isEmpty)) H):=by
 intro pins s σ H x y v u Q I rx ry h
 obtain⟨i,j,rfl,rfl,q⟩:=h
 obtain⟨t,rfl⟩:=rx
 obtain⟨t',rfl⟩:=ry
 exact in_str (WQ I q rfl)
theorem pR:OpR X (compareOp .Is) (fun x y H Q=>y = .non/\Q (.bl (decide (x = .non))) H):=by
 intro pins s σ H x y v u Q I rx ry h
 obtain⟨rfl,q⟩:=h
 cases ry
 refine is_none_gen (WQ I q ?_)
 cases x <;> first
   | (cases rx;rfl)
   | (obtain⟨t,rfl⟩:=rx;rfl)
theorem jZ:OpR X (compareOp .IsNot) (fun x y H Q=>y = .non/\Q (.bl (!decide (x = .non))) H):=by
 intro pins s σ H x y v u Q I rx ry h
 obtain⟨rfl,q⟩:=h
 cases ry
 refine isnot_none_gen (WQ I q ?_)
 cases x <;> first
   | (cases rx;rfl)
   | (obtain⟨t,rfl⟩:=rx;rfl)
theorem OpR.or {f:Value->Value->Sem Value}{r r':R2}(h:OpR X f r) (h':OpR X f r'):OpR X f (fun x y H Q=>r x y H Q∨r' x y H Q):=by
 intro pins s σ H x y v u Q I rx ry q
 rcases q with q | q
 · exact h pins s σ H x y v u Q I rx ry q
 · exact h' pins s σ H x y v u Q I rx ry q
theorem EG (b:Expr) {op:CmpOp}(h:op≠.In:=by decide) (h2:op≠.NotIn:=by decide):behindInMarks op b=false:=by
 have e1:(op==CmpOp.In)=false:=by cases op <;> first | rfl | exact absurd rfl h
 have e2:(op==CmpOp.NotIn)=false:=by cases op <;> first | rfl | exact absurd rfl h2
 cases b <;> simp[behindInMarks,e1,e2]
theorem G6 {op:CmpOp}{r:R2}(ho:OpR X (compareOp op) r) (ha:PE X a ta) (hb:PE X b tb) (hm:behindInMarks op b=false):PE X (.Compare a [op] [b] pos) (tOp r ta tb):=by
 intro pins s σ H Q I h
 exact wpAny_Compare1 (pL ha hb I h fun v u s2 x y H2 I2 rx ry q=>ho pins s2 σ H2 x y v u Q I2 rx ry q) hm
def dD (t:TE):TT:=fun σ H Q=>t σ H fun x H'=>∃k,x = .bl k/\Q k H'
theorem EB {op:CmpOp}{r:R2}(ho:OpR X (compareOp op) r) (ha:PE X a ta) (hb:PE X b tb) (hm:behindInMarks op b=false):PT X (.Compare a [op] [b] pos) (dD (tOp r ta tb)):=by
 intro pins s σ H Q I h
 refine wpAny_isTrue_Compare1 (thn (ha pins s σ H _ I h) fun v s1 ⟨x,H1,I1,r1,q1⟩=>thn (hb pins s1 σ H1 _ I1 q1) fun u s2 ⟨y,H2,I2,r2,q2⟩=>
   thn (ho pins s2 σ H2 x y v u _ I2 r1 r2 q2) fun c s3 ⟨z,H3,I3,r3,k,e,q3⟩=>?_) hm
 subst e
 cases r3
 exact wpAny_truthy_bool ⟨H3,I3,q3⟩
def WR (r r':R2) (ta tb tc:TE):TE:=fun σ H Q=>ta σ H fun x H1=>tb σ H1 fun y H2=>r x y H2 fun z H3=>∃k,z = .bl k /\
 (if k=true then tc σ H3 fun w' H4=>r' y w' H4 Q else Q (.bl false) H3)
theorem dE {op op':CmpOp}{r r':R2}(ho:OpR X (compareOp op) r) (ho':OpR X (compareOp op') r') (ha:PE X a ta) (hb:PE X b tb) (hc:PE X c tc)
   (hm:lastMarks [op,op'] [b,c]=false:=by with_unfolding_all rfl):PE X (.Compare a [op,op'] [b,c] pos) (WR r r' ta tb tc):=by
 intro pins s σ H Q I h
 refine Compare_chain (thn (ha pins s σ H _ I h) fun v s1 ⟨x,H1,I1,r1,q1⟩=>chain_link (thn (hb pins s1 σ H1 _ I1 q1) fun u s2 ⟨y,H2,I2,r2,q2⟩=>
   thn (ho pins s2 σ H2 x y v u _ I2 r1 r2 q2) fun d s3 ⟨z,H3,I3,r3,k,e,q3⟩=>?_)) hm
 subst e
 cases r3
 refine wpAny_truthy_bool ?_
 cases k with
 | false=>exact ite_ff ⟨.bl false,H3,I3,rfl,q3⟩
 | true=>exact ite_tt (chain_last (thn (hc pins s3 σ H3 _ I3 q3) fun w' s4 ⟨z',H4,I4,r4,q4⟩=>ho' pins s4 σ H4 y z' u w' Q I4 r2 r4 q4))
theorem dF {op op':CmpOp}{r r':R2}(ho:OpR X (compareOp op) r) (ho':OpR X (compareOp op') r') (ha:PE X a ta) (hb:PE X b tb) (hc:PE X c tc)
   (hm:lastMarks [op,op'] [b,c]=false:=by with_unfolding_all rfl):PT X (.Compare a [op,op'] [b,c] pos) (dD (WR r r' ta tb tc)):=by
 intro pins s σ H Q I h
 refine isTrue_chain (thn (ha pins s σ H _ I h) fun v s1 ⟨x,H1,I1,r1,q1⟩=>test_link (thn (hb pins s1 σ H1 _ I1 q1) fun u s2 ⟨y,H2,I2,r2,q2⟩=>
   thn (ho pins s2 σ H2 x y v u _ I2 r1 r2 q2) fun d s3 ⟨z,H3,I3,r3,k,e,q3⟩=>?_)) hm
 subst e
 cases r3
 refine wpAny_truthy_bool ?_
 cases k with
 | false=>
   obtain⟨k',e',q'⟩:=q3
   cases e'
   exact ite_ff ⟨H3,I3,q'⟩
 | true=>
   refine ite_tt (test_last (thn (hc pins s3 σ H3 _ I3 q3) fun w' s4 ⟨z',H4,I4,r4,q4⟩=>thn (ho' pins s4 σ H4 y z' u w' _ I4 r2 r4 q4) fun d' s5 ⟨z2,H5,I5,r5,k2,e2,q5⟩=>?_))
   subst e2
   cases r5
   exact wpAny_truthy_bool ⟨H5,I5,q5⟩
theorem NN:(sizeLine:Nat) < 2 ^ 63:=by rw[sizeLine_eq];decide
theorem WS:OpR X (binaryOp .Add) (fun x y H Q=>∃i j,x = .str i/\y = .str j/\i.length+j.length<=sizeLine/\Q (.str (i++j)) H):=by
 intro pins s σ H x y v u Q I rx ry h
 obtain⟨i,j,rfl,rfl,hz,q⟩:=h
 obtain⟨t,rfl⟩:=rx
 obtain⟨t',rfl⟩:=ry
 exact add_str (fun t' tk=>⟨.str (i++j),H,I.tok _,⟨_,rfl⟩,q⟩) hz
theorem DN {x:V}{us:List Value}(r:Vals [x] us):∃u,us=[u]/\RelV x u:=by
 cases r with
 | cons r1 r2=>cases r2;exact⟨_,rfl,r1⟩
theorem dG {x y:V}{us:List Value}(r:Vals [x,y] us):∃u w',us=[u,w']/\RelV x u/\RelV y w':=by
 cases r with
 | cons r1 r2=>
   cases r2 with
   | cons r3 r4=>cases r4;exact⟨_,_,rfl,r1,r3⟩
theorem aI (hc:X.calm=true):B2 X (.builtin "min") (fun xs H Q=>∃i j,xs=[.int i,.int j]/\Q (.int (if j < i then j else i)) H):=by
 intro pins s σ H xs us Q I r h
 obtain⟨i,j,rfl,q⟩:=h
 obtain⟨u,w',rfl,⟨t,rfl⟩,⟨t',rfl⟩⟩:=dG r
 refine min_two_ints (I.ok.hd hc) fun h' tk k=>⟨_,H,I.kept k,?_,q⟩
 by_cases hj:j < i
 · rw[if_pos hj,if_pos hj];exact⟨_,rfl⟩
 · rw[if_neg hj,if_neg hj];exact⟨_,rfl⟩
theorem aJ:B2 X (.type "int") (fun xs H Q=>(∃i,xs=[.int i]/\Q (.int i) H)∨∃k,xs=[.bl k]/\Q (.int (if k then 1 else 0)) H):=by
 intro pins s σ H xs us Q I r h
 rcases h with ⟨i,rfl,q⟩ | ⟨k,rfl,q⟩
 · obtain⟨u,rfl,t,rfl⟩:=DN r
   exact call_int_int ⟨.int i,H,I,⟨_,rfl⟩,q⟩
 · obtain⟨u,rfl,r1⟩:=DN r
   cases r1
   exact call_int_bool ⟨.int (if k then 1 else 0),H,I.tok _,⟨_,rfl⟩,q⟩
def dH (K:Frg) (x:V) (H:Hp) (n:Nat):Prop:=
 match x with
 | .str y=>y.length<=sizeLine/\n=y.length
 | .byt y=>y.size<=sizeLine/\n=y.size
 | .ref p=>(∃xs,SqL K H p xs/\n=xs.length)∨∃xs,SqT K H p xs/\n=xs.length
 | _=>False
theorem dI:B2 X (.builtin "len") (fun xs H Q=>∃x n,xs=[x]/\dH X.K x H n/\Q (.int n) H):=by
 intro pins s σ H xs us Q I r h
 obtain⟨x,n,rfl,e,q⟩:=h
 obtain⟨u,rfl,rx⟩:=DN r
 have hl:=NN
 have hs:sizeLine=16777216:=sizeLine_eq
 cases x with
 | str y=>
   obtain⟨t,rfl⟩:=rx
   obtain⟨hy,e'⟩:y.length<=sizeLine/\n=y.length:=e
   subst e'
   exact len_str (by omega) ⟨.int _,H,I.tok _,⟨_,rfl⟩,q⟩
 | byt y=>
   obtain⟨t,rfl⟩:=rx
   obtain⟨hy,e'⟩:y.size<=sizeLine/\n=y.size:=e
   subst e'
   exact PySem.W.len_bytes (by omega) ⟨.int _,H,I.tok _,⟨_,rfl⟩,q⟩
 | ref p=>
   cases rx
   have e':(∃xs,SqL X.K H p xs/\n=xs.length)∨∃xs,SqT X.K H p xs/\n=xs.length:=e
   rcases e' with ⟨xs,hx,e'⟩ | ⟨xs,hx,e'⟩
   · subst e'
     obtain⟨its,r',pl,hz⟩:=I.list hx
     have hlen:=r'.length
     exact Calls.call_len_list pl.isList (by simp only[zJ];omega) ⟨.int xs.length,H,I.tok _,⟨_,by simp only[zJ];rw[hlen]⟩,q⟩
   · subst e'
     obtain⟨its,r',pl,hz⟩:=I.tuple hx
     have hlen:=r'.length
     exact len_tuple pl (by simp only[zJ];omega) ⟨.int xs.length,H,I.tok _,⟨_,by simp only[zJ];rw[hlen]⟩,q⟩
 | _=>exact(show False from e).elim
theorem U6:B2 X (.builtin "divmod") (fun xs H Q=>∃i j,xs=[.int i,.int j]/\tI i j/\∀p,H p=none->Q (.ref p) (upd H p (.tup [.int (i/j),.int (i % j)]))):=by
 intro pins s σ H xs us Q I r h
 obtain⟨i,j,rfl,⟨h1,h2⟩,q⟩:=h
 obtain⟨u,w',rfl,⟨t,rfl⟩,⟨t',rfl⟩⟩:=dG r
 refine divmod_int (by omega) ?_ (.inl (PyProof.noPylong_small (by omega)))
 rw[Int.fdiv_eq_ediv_of_nonneg i (by omega),Int.fmod_eq_emod_of_nonneg i (by omega)]
 have hn:H s.heap.objs.size=none:=I.hok.fresh (zR _)
 refine⟨.ref s.heap.objs.size,_,?_,rfl,q _ hn⟩
 refine I.laid (fun b o e=>zW _ e) (zR _) ⟨by simp only[yR,b0K];rw[sizeLine_eq];decide,[.int (i/j) s.toks,.int (i % j) (s.toks+1)],.cons ⟨_,rfl⟩ (.cons ⟨_,rfl⟩ .nil),?_⟩
 exact⟨_,yZ s.heap rfl,rfl,0,rfl⟩
end
structure ObjM (h:Heap) (x dx C:Addr) (mA:Str->Option Value):Prop where
 obj:h.get? x=some (PySem.W.instObj C dx)
 ns:h.Ns1 dx mA
 ne:dx≠x
theorem QD {h:Heap}{dx:Addr}{mA:Str->Option Value}(n:h.Ns1 dx mA):∃od,h.get? dx=some od/\∀name,PySem.W.lookIn name od=some (mA name):=by
 obtain⟨o,es,ep,ho,hd,hk,_,hm⟩:=n
 refine⟨o,ho,fun name=>?_⟩
 have e:=hm name
 unfold nsFind findBy at e
 rw[← Array.find?_toList] at e
 unfold PySem.W.lookIn
 rw[hd]
 dsimp only
 split
 · rename_i y q
   rw[q] at e
   exact congrArg some e
 · rename_i q
   rw[q] at e
   have a:es.toList.any (·.refKey)=false:=by
     rw[List.any_eq_false]
     intro y hy
     obtain⟨z,t,hkey⟩:=hk y (Array.mem_toList_iff.mp hy)
     simp[DictEntry.refKey,hkey]
   have a':¬es.toList.any (·.refKey)=true:=by rw[a];exact nft
   rw[if_neg a']
   exact congrArg some e
theorem ObjM.look {h:Heap}{x dx C:Addr}{mA:Str->Option Value}(I:ObjM h x dx C mA):∃od,PySem.W.InstAt h x (PySem.W.instObj C dx) C (some od)/\∀name,PySem.W.lookIn name od=some (mA name):=
 let ⟨od,ho,hl⟩:=QD I.ns
 ⟨od,⟨I.obj,rfl,rfl,ho⟩,hl⟩
theorem RelO.some_of {v:V}{o:Option Value}(r:RelO (some v) o):∃u,o=some u/\RelV v u:=by
 cases o with
 | none=>exact(show False from r).elim
 | some u=>exact⟨u,rfl,r⟩
theorem aK {v:V}{u:Value}(r:RelV v u):PySem.W.handedIn u=true:=by
 cases v with
 | non=>cases (show u=a1J from r);rfl
 | bl b=>cases (show u=Value.bool b from r);rfl
 | int i=>obtain⟨t,e⟩:=(show ∃t,u=b5W i t from r);cases e;rfl
 | str x=>obtain⟨t,e⟩:=(show ∃t,u=b8J x t from r);cases e;rfl
 | byt b=>obtain⟨t,e⟩:=(show ∃t,u=Value.bytes b t from r);cases e;rfl
 | flt b=>obtain⟨t,e⟩:=(show ∃t,u=Value.float b t from r);cases e;rfl
 | ref a=>cases (show u=a0X a from r);rfl
 | ty n=>cases (show u=b8Z n from r);rfl
section
variable {P:Program}{w:World}{H H':Hp}{h h':Heap}{a C dx:Addr}{fs fs':List (Str×V)}
theorem k6 (hok:HOk P w H h) (e:H a=some (.ins C dx fs)):∃mA,ObjM h a dx C mA/\(∀f,RelO (fs.lookup f) (mA f))/\PySem.Within mA (fs.map (·.1))/\fs.length<=1000/\H dx=some (.own a):=by
 obtain⟨d,z,ne,ob,mA,n,r,q⟩:=(show ObjOk P w H h a (.ins C dx fs) from hok a _ e)
 exact⟨mA,⟨ob,n,ne⟩,r,q,z,d⟩
end
structure Cls (K:Frg) (C:Addr):Prop where
 pg:PySem.W.plainGet K C Str.empty=true
 hd:PySem.W.hasDictIn K C=true
 po:PySem.W.plainOver K C=true
 sa:a8K K (.ref C) "__setattr__"=some (some (.builtin "object.__setattr__"))
theorem Cls.get {K:Frg}{C:Addr}(c:Cls K C) (f:Str):PySem.W.plainGet K C f=true:=c.pg
def L8 (K:Frg) (C:Addr) (f:Str):Prop:=a8K K (.ref C) f=some none
section
variable {X:Cx}{pins:List (Addr×Obj)}{σ:St}{H:Hp}{s:Shared}{a C dx:Addr}{fs:List (Str×V)}{f:Str}{v:V}{A:Around}{E:Value->Shared->Prop}
theorem k7 {prog:Program}{w:World}{env:Env}{e:Expr}{f:Str}{pos:Pos}{s:Shared}{Q:Value->Shared->Prop}(hb:attributeBase e f env (eval e env)=eval e env)
   (h:wpAny (model prog w) A (eval e env) (fun o s₁=>wpAny (model prog w) A (getAttr o f true) Q E s₁) E s):wpAny (model prog w) A (eval (.Attribute e f pos) env) Q E s:=
 Attribute_any_ h (by rw[arm_eval_Attribute,hb])
end
section
variable {X:Cx}{pins:List (Addr×Obj)}{σ:St}{H:Hp}{s:Shared}{A:Around}{E:Value->Shared->Prop}{Q:Value->Shared->Prop}{c:Value}{b:Bool}
inductive TyOf (K:Frg) (H:Hp):V->Value->Prop where
 | non:TyOf K H .non (.type "NoneType")
 | bl (x:Bool):TyOf K H (.bl x) (.type "bool")
 | int (i:Int):TyOf K H (.int i) (.type "int")
 | str (x:Str):TyOf K H (.str x) (.type "str")
 | flt (x:UInt64):TyOf K H (.flt x) (.type "float")
 | lst {a:Addr}{xs:List V}(e:H a=some (.lst xs)):TyOf K H (.ref a) (.type "list")
 | frz {a:Addr}{o:Obj}{xs:List V}(e:H a=some (.frz o (.lst xs))):TyOf K H (.ref a) (.type "list")
 | tup {a:Addr}{xs:List V}(e:H a=some (.tup xs)):TyOf K H (.ref a) (.type "tuple")
 | dK {a:Addr}{kvs:List (Key×V)}(e:H a=some (.dK kvs)):TyOf K H (.ref a) (.type "dict")
 | dT {a:Addr}{kvs:List (List Key×V)}(e:H a=some (.dT kvs)):TyOf K H (.ref a) (.type "dict")
 | ins {a C dx:Addr}{fs:List (Str×V)}(e:H a=some (.ins C dx fs)) (cl:Cls K C) (ha:a8K K (.ref C) "__class__"=some (some (.builtin "object.__class__")))
     (hn:PySem.W.specialIn K (.builtin "object.__class__") "__get__"=some (some (.builtin "getset_descriptor.__get__"))) (htk:PySem.W.takesIn K (.builtin "object.__class__")=some true)
     (hm:PySem.W.mroIn K C (.type "object")=some true):TyOf K H (.ref a) (.ref C)
theorem FM {x:V}{u t:Value}(I:Inv X pins σ H s) (rx:RelV x u) (ty:TyOf X.K H x t) (e:a3Q X.K t c=some b) (h:∀tk,Q (.bool b) { s with toks:=tk }) :
   wpAny (model X.prog X.w) A (call (.builtin "isinstance") [u,c]) Q E s:=by
 cases ty with
 | non=>cases (show u=a1J from rx);exact a1W PySem.W.kitx_none I.kIn a6J e (fun z=>nomatch z) h
 | bl y=>cases (show u=Value.bool y from rx);exact a1W PySem.W.kitx_bool I.kIn a6J e (fun z=>nomatch z) h
 | int i=>obtain⟨t,q⟩:=(show ∃t,u=b5W i t from rx);cases q;exact a1W PySem.W.kitx_int I.kIn a6J e (fun z=>nomatch z) h
 | str y=>obtain⟨t,q⟩:=(show ∃t,u=b8J y t from rx);cases q;exact a1W PySem.W.kitx_str I.kIn a6J e (fun z=>nomatch z) h
 | flt y=>obtain⟨t,q⟩:=(show ∃t,u=Value.float y t from rx);cases q;exact a1W PySem.W.kitx_float I.kIn a6J e (fun z=>nomatch z) h
 | @lst a xs ea=>
   cases (show u=a0X a from rx)
   obtain⟨_,_,n,_,h1⟩:=(show ObjOk X.prog X.w H s.heap a (.lst xs) from I.hok a _ ea)
   exact a1W PySem.W.kitx_list I.kIn ⟨_,h1,rfl⟩ e (fun z=>nomatch z) h
 | @frz a ob xs ea=>
   cases (show u=a0X a from rx)
   obtain⟨_,_,_,n,_,h1⟩:=(show ObjOk X.prog X.w H s.heap a (.frz ob (.lst xs)) from I.hok a _ ea)
   exact a1W PySem.W.kitx_list I.kIn ⟨_,h1,rfl⟩ e (fun z=>nomatch z) h
 | @tup a xs ea=>
   cases (show u=a0X a from rx)
   obtain⟨_,_,_,p⟩:=(show ObjOk X.prog X.w H s.heap a (.tup xs) from I.hok a _ ea)
   obtain⟨o,h1,h2,_⟩:=p
   exact a1W PySem.W.kitx_tuple I.kIn ⟨o,h1,h2⟩ e (fun z=>nomatch z) h
 | @dK a kvs ea=>
   cases (show u=a0X a from rx)
   obtain⟨_,_,vs,_,p⟩:=(show ObjOk X.prog X.w H s.heap a (.dK kvs) from I.hok a _ ea)
   obtain⟨o,es,ep,h1,h2,_⟩:=p
   exact a1W PySem.W.kitx_dict I.kIn ⟨o,h1,h2.1⟩ e (fun z=>nomatch z) h
 | @dT a kvs ea=>
   cases (show u=a0X a from rx)
   obtain⟨_,_,xs,_,o,es,ep,h1,h2,_⟩:=(show ObjOk X.prog X.w H s.heap a (.dT kvs) from I.hok a _ ea)
   exact a1W PySem.W.kitx_dict I.kIn ⟨o,h1,h2.1⟩ e (fun z=>nomatch z) h
 | @ins a C dx fs ea cl ha hn htk hm=>
   cases (show u=a0X a from rx)
   obtain⟨mA,O,_⟩:=k6 I.hok ea
   obtain⟨od,J,_⟩:=O.look
   exact a1W (PySem.W.kitx_own (cl.get _) cl.hd ha hn htk hm) I.kIn J e (fun z=>nomatch z) h
end
structure Room (k:Nat) (A:Around):Prop where
 hd:A.handled=none
 dp:A.depth+3*k+5 < recursionLimit
 un:A.units+16*k+200 < cLine
theorem Room.mono {j k:Nat}{A:Around}(r:Room k A) (h:j<=k):Room j A:=⟨r.hd,by have:=r.dp;omega,by have:=r.un;omega⟩
theorem Room.deeper {k:Nat}{A:Around}(r:Room (k+1) A) (env:Env):Room k (A.deeper env):=
 ⟨r.hd,by have:=r.dp;show A.depth+1+3*k+5 < _;omega,by have:=r.un;show A.units+3+16*k+200 < _;omega⟩
theorem WT {A:Around}{C:Addr}{us:List Value}{kw:List (Str×Value)}:(A.under (.builtin "type.__call__" ⟨.ref C::us,kw⟩)).depth=A.depth+1:=by
 first | rfl | simp[Around.under,Code.weight,Code.isCreation,Code.isGuard,Code.isCaller,Code.frames,Code.isFrame,guardIds]
theorem WU {A:Around}{C:Addr}{us:List Value}{kw:List (Str×Value)}:(A.under (.builtin "type.__call__" ⟨.ref C::us,kw⟩)).units=A.units+1:=by
 first | rfl | simp[Around.under,Code.cUnits,Code.frames,Code.isFrame]
theorem Room.make {k:Nat}{A:Around}(r:Room (k+1) A) (C:Addr) (us:List Value) (kw:List (Str×Value)):Room k (A.under (.builtin "type.__call__" ⟨.ref C::us,kw⟩)):=
 ⟨r.hd,by have:=r.dp;rw[WT];omega,by have:=r.un;rw[WU];omega⟩
theorem Room.depth {k:Nat}{A:Around}(r:Room k A):A.depth < recursionLimit:=by have:=r.dp;omega
theorem Room.units {k:Nat}{A:Around}(r:Room k A):A.units+64 < cLine:=by have:=r.un;omega
def tK:TA:=fun _ H Q=>Q [] H
def nT (ta:TE) (tr:TA):TA:=fun σ H Q=>ta σ H fun x H1=>tr σ H1 fun xs H2=>Q (x::xs) H2
section
variable {X:Cx}{e:Expr}{es:List Expr}{te:TE}{t:TA}{pos:Pos}
theorem dJ:PA X [] tK:=fun _ _ _ _ H Q I h=>b8V ⟨[],H,I,.nil,h⟩
theorem RW (ha:PE X e te) (hr:PA X es t) (hs:starEach (e::es) X.env=(false,eval e X.env)::starEach es X.env:=by rfl):PA X (e::es) (nT te t):=by
 intro pos pins s σ H Q I h
 rw[hs]
 show wpAny _ _ (spliced ((false,eval e X.env)::backTo pos (starEach es X.env))) _ _ s
 refine xP (thn (ha pins s σ H _ I h) fun u s1 ⟨x,H1,I1,r1,q1⟩=>?_)
 exact thn (hr pos pins s1 σ H1 _ I1 q1) fun us s2 ⟨xs,H2,I2,r2,q2⟩=>⟨x::xs,H2,I2,.cons r1 r2,q2⟩
def tL (t:TA):TE:=fun σ H Q=>t σ H fun xs H1=>xs.length<=sizeLine/\∀p,H1 p=none->Q (.ref p) (upd H1 p (.tup xs))
def pS (t:TA):TE:=fun σ H Q=>t σ H fun xs H1=>xs.length<=sizeLine/\∀p,H1 p=none->Q (.ref p) (upd H1 p (.lst xs))
theorem pT {x1} (h:PA X es t):PE X (.Tuple es x1 pos) (tL t):=by
 intro pins s σ H Q I hq
 refine wpAny_Tuple_spliced (thn (h pos pins s σ H _ I hq) fun us s1 ⟨xs,H1,I1,r,z,q⟩=>⟨by rw[← r.length];exact z,?_⟩)
 have hf:H1 s1.heap.objs.size=none:=I1.hok.fresh (zR _)
 refine⟨.ref s1.heap.objs.size,upd H1 s1.heap.objs.size (.tup xs),I1.laid (t':=s1.toks) (fun b u e=>zW _ e) (zR _) ?_,rfl,q _ hf⟩
 exact⟨z,us,r,⟨_,yZ _ rfl,rfl,_,rfl⟩⟩
theorem pU (h:PA X es t):PE X (.List es pos) (pS t):=by
 intro pins s σ H Q I hq
 refine wpAny_List_spliced (thn (h pos pins s σ H _ I hq) fun us s1 ⟨xs,H1,I1,r,z,q⟩=>⟨by rw[← r.length];exact z,?_⟩)
 have hf:H1 s1.heap.objs.size=none:=I1.hok.fresh (zR _)
 refine⟨.ref s1.heap.objs.size,upd H1 s1.heap.objs.size (.lst xs),I1.laid (t':=s1.toks) (fun b u e=>zW _ e) (zR _) ?_,rfl,q _ hf⟩
 exact⟨z,us,0,r,yZ _ rfl⟩
end
abbrev Sp:=List V->Hp->VK->XK->Prop
abbrev CXT:=List Env->Hp->Shared->XK->Value->Shared->Prop
structure Env0 (P:Program) (w:World) (K:Frg) (mg:Str->Option Value) (base:Heap) (A:Around) (outer:List Env) (s:Shared) (H:Hp):Prop where
 frames:A.frames=some outer
 mod:Mod K mg base
 bs:∀b o,base.get? b=some o->s.heap.get? b=some o/\H b=none
 bsz:base.objs.size<=s.heap.objs.size
 funs:s.heap.FunFrames base outer
 frf:∀b∈frs outer,H b=none
 hok:HOk P w H s.heap
 bare:AllBare s.gens
def CE (outer:List Env) (P:Program) (w:World) (H:Hp) (s:Shared) (Q:VK) (u:Value) (s':Shared):Prop:=
 ∃v H',s'.os=s.os/\AllBare s'.gens/\Un (frs outer) [] H H' s.heap s'.heap/\HOk P w H' s'.heap/\RelV v u/\Q v H'
def CR (CX:CXT) (outer:List Env) (P:Program) (w:World) (H:Hp) (s:Shared) (Q:VK) (E:XK) (r:Result) (s':Shared):Prop:=
 match r with
 | .ok (.ret u)=>CE outer P w H s Q u s'
 | .ok _=>False
 | .error e=>CX outer H s E e s'
structure FnOk (P:Program) (w:World) (K:Frg) (mg:Str->Option Value) (base:Heap) (CX:CXT) (k:Nat) (f:Addr) (fd:FuncData) (ps:List Str) (sp:Sp):Prop where
 len:∀vs H Q E,sp vs H Q E->vs.length=ps.length
 run:∀(A:Around) (outer:List Env) (s:Shared) (H:Hp) (args:Args) (us:List Value) (vs:List V) (Q:VK) (E:XK),Room k A->Env0 P w K mg base A outer s H->BindsTo s fd args (ps.zip us)->Vals vs us->sp vs H Q E ->
   codeAny (model P w) A (.call (.ref f) args) (CR CX outer P w H s Q E) s
theorem Env0.make {P:Program}{w:World}{K:Frg}{mg:Str->Option Value}{base:Heap}{A:Around}{outer:List Env}{s:Shared}{H:Hp}(e:Env0 P w K mg base A outer s H) (C:Addr) (us:List Value) (kw:List (Str×Value)) :
   Env0 P w K mg base (A.under (.builtin "type.__call__" ⟨.ref C::us,kw⟩)) outer s H:=⟨by first | exact e.frames | (simpa [Around.under,Code.envs,Code.isFrame,pushEnvs] using e.frames),e.mod,e.bs,e.bsz,e.funs,e.frf,e.hok,e.bare⟩
section
variable {X:Cx}{pins:List (Addr×Obj)}{σ:St}{H:Hp}{s s':Shared}
theorem Inv.env0 (I:Inv X pins σ H s):Env0 X.prog X.w X.K X.mg X.base X.A X.stack s H:=
 ⟨I.ok.frames,I.ok.mod,I.bs,zN I.ok.bsz I.sz,I.stack,I.stkFree,I.hok,I.bare⟩
theorem Inv.after {Q:VK}{u:Value}(I:Inv X pins σ H s) (h:CE X.stack X.prog X.w H s Q u s'):EP X pins σ Q u s':=by
 obtain⟨v,H',os,bare,un,hok,r,q⟩:=h
 obtain⟨hh,g,d,t,os'⟩:=s'
 obtain rfl:os'=s.os:=os
 exact⟨v,H',I.call (h':=hh) (g':=g) (d':=d) (t':=t) (ch:=[]) un hok bare (fun b z=>absurd z (by simp)),r,q⟩
end
def YN (sp:Sp) (dvs:List V) (E:XK) (t:TA):TE:=fun σ H Q=>t σ H fun vs H1=>sp (vs++dvs) H1 Q E
def Binds (K:Frg) (fd:FuncData) (ps:List Str) (ds:List Value):Prop:=
 ∀(s:Shared) (us:List Value),K.In s.heap->(us++ds).length=ps.length->BindsTo s fd ⟨us,[]⟩ (ps.zip (us++ds))
theorem Binds.all {K:Frg}{fd:FuncData}{ps:List Str}(h:∀us:List Value,us.length=ps.length->bindArgs fd ⟨us,[]⟩=pure (ps.zip us)):Binds K fd ps []:=fun s us _ hl=>by
 rw[a8X] at hl ⊢
 exact .of_eq (h us hl)
def WV (CX:CXT) (X:Cx) (E:XK):Prop:=∀(pins:List (Addr×Obj)) (σ:St) (H:Hp) (s:Shared) (e:Value) (s':Shared),Inv X pins σ H s->CX X.stack H s E e s'->X.xe e s'
section
variable {X:Cx}{CX:CXT}{k:Nat}{f C:Addr}{fd:FuncData}{ps:List Str}{sp:Sp}{dvs:List V}{ds:List Value}{E:XK}{x m:Str}{p pos apos:Pos}{e o:Expr}{es:List Expr}{ta:TE}{t:TA}
theorem pV {pins:List (Addr×Obj)}{σ:St}{H:Hp}{s:Shared}{Q:VK}{us:List Value}{vs:List V}(F:FnOk X.prog X.w X.K X.mg X.base CX k f fd ps sp) (hr:Room k X.A) (hb:Binds X.K fd ps ds) (hd:Vals dvs ds) (hx:WV CX X E)
   (I:Inv X pins σ H s) (r:Vals vs us) (h:sp (vs++dvs) H Q E):wpAny (model X.prog X.w) X.A (call (.ref f) us) (EP X pins σ Q) X.xe s:=by
 have r2:Vals (vs++dvs) (us++ds):=r.append hd
 have hl:(us++ds).length=ps.length:=by rw[← r2.length];exact F.len _ _ _ _ h
 refine wpAny_call (xN (F.run X.A X.stack s H ⟨us,[]⟩ (us++ds) (vs++dvs) Q E hr I.env0 (hb s us I.kIn hl) r2 h) fun r s' hq=>?_)
 cases r with
 | error e=>exact hx pins σ H s e s' I hq
 | ok fl=>
   cases fl with
   | ret u=>exact I.after hq
   | next=>exact a6Z hq
   | brk=>exact a6Z hq
   | cont=>exact a6Z hq
theorem k8 (F:FnOk X.prog X.w X.K X.mg X.base CX k f fd ps sp) (hr:Room k X.A) (hg:Gl X x) (hm:X.mg x=some (.ref f)) (hk:a3J X.K (.ref f)=true) (hb:Binds X.K fd ps ds) (hd:Vals dvs ds) (hx:WV CX X E)
   (ha:PA X (e::es) t) (hdb:(x==("__debug__":Str))=false:=by decide) (he:starEach (e::es) X.env=(false,eval e X.env)::starEach es X.env:=by rfl) (hpl:(backTo pos (starEach es X.env)).any (·.1)=false:=by rfl) :
   PE X (.Call (.Name x p) (e::es) [] pos) (YN sp dvs E t):=by
 intro pins s σ H Q I h
 refine wpAny_Call_Name_kw (IS I hg hm ?_ hdb)
 refine PySem.W.callWith_K (h₀:=X.base) I.ok.mod.kin hk (thn (ha pos pins s σ H _ I h) fun us s1 ⟨vs,H1,I1,r,q⟩=>⟨I1.kIn,?_⟩) he hpl
 exact pV F hr hb hd hx I1 r q
end
structure FnScope (N P:List Str) (sc:Scope):Prop where
 kind:sc.kind = .function
 co:sc.isCoroutine=false
 gen:sc.isGenerator=false
 nd:N.Nodup
 pre:N.take P.length=P
 par:∀x∈P,sc.names.lookup x=some .local∨sc.names.lookup x=some .cell
 nofree:∀y∈sc.names,y.2≠.free
theorem QE {kindOf:Str->Option NameKind}{x:Str}:∀{binds:List (Str×Value)}{m:Str->Option Value},(∀v,(x,v)∉binds)->bindL kindOf binds m x=m x
 | [],_,_=>rfl
 | (n,v)::r,m,h=>by
   unfold bindL
   rw[QE fun w hw=>h w (yV _ hw)]
   split
   · have:x≠n:=by rintro rfl;exact h v a1Z
     simp[this]
   · rfl
theorem QF {kindOf:Str->Option NameKind}{x:Str}:∀{binds:List (Str×Value)}{m:Str->Option Value},(∀v,(x,v)∉binds)->bindC kindOf binds m x=m x
 | [],_,_=>rfl
 | (n,v)::r,m,h=>by
   unfold bindC
   rw[QF fun w hw=>h w (yV _ hw)]
   split
   · rfl
   · have:x≠n:=by rintro rfl;exact h v a1Z
     simp[this]
theorem QG {kindOf:Str->Option NameKind}{x:Str}{v:Value}:∀{P:List Str}{vs:List Value}{i:Nat}{m:Str->Option Value},P.Nodup->P[i]?=some x->vs[i]?=some v->kindOf x=some .local ->
   bindL kindOf (P.zip vs) m x=some v
 | [],_,_,_,_,h,_,_=>by simp at h
 | _::_,[],_,_,_,_,h,_=>by simp at h
 | p::P,w::vs,0,m,nd,h1,h2,hk=>by
   simp at h1 h2;subst h1;subst h2
   show bindL kindOf ((p,w)::P.zip vs) m p=_
   unfold bindL
   rw[QE fun v hv=>(xV.mp nd).1 (b6X hv).1,if_pos hk]
   simp
 | p::P,w::vs,i+1,m,nd,h1,h2,hk=>by
   show bindL kindOf ((p,w)::P.zip vs) m x=_
   unfold bindL
   exact QG (i:=i) (xV.mp nd).2 (by simpa using h1) (by simpa using h2) hk
theorem QH {kindOf:Str->Option NameKind}{x:Str}{v:Value}:∀{P:List Str}{vs:List Value}{i:Nat}{m:Str->Option Value},P.Nodup->P[i]?=some x->vs[i]?=some v->kindOf x≠some .local ->
   bindC kindOf (P.zip vs) m x=some v
 | [],_,_,_,_,h,_,_=>by simp at h
 | _::_,[],_,_,_,_,h,_=>by simp at h
 | p::P,w::vs,0,m,nd,h1,h2,hk=>by
   simp at h1 h2;subst h1;subst h2
   show bindC kindOf ((p,w)::P.zip vs) m p=_
   unfold bindC
   rw[QF fun v hv=>(xV.mp nd).1 (b6X hv).1,if_neg hk]
   simp
 | p::P,w::vs,i+1,m,nd,h1,h2,hk=>by
   show bindC kindOf ((p,w)::P.zip vs) m x=_
   unfold bindC
   exact QH (i:=i) (xV.mp nd).2 (by simpa using h1) (by simpa using h2) hk
def EZ (N:List Str) (vs:List V):St:=vs.map some++a2Z (N.length - vs.length) none
def K7 (CX:CXT) (P:Program) (w:World) (K:Frg) (mg:Str->Option Value) (base:Heap) (N:List Str) (qual:Str) (scope:Scope) (f:Addr) (cd:Value) (A:Around) (outer:List Env) (s:Shared) (H:Hp) (E:XK):Cx where
 prog:=P
 w:=w
 K:=K
 mg:=mg
 base:=base
 A:=A.deeper (envOfC qual scope s.heap.objs.size f cd)
 N:=N
 s₀:=s
 H₀:=H
 env:=envOfC qual scope s.heap.objs.size f cd
 outer:=outer
 stack:=envOfC qual scope s.heap.objs.size f cd::outer
 ex:=[]
 calm:=true
 fn:=fun _=>true
 pn:=[]
 xe:=fun e s'=>wpAny (model P w) (A.deeper (envOfC qual scope s.heap.objs.size f cd)) (leaving (envOfC qual scope s.heap.objs.size f cd) e) (fun _ s''=>CX outer H s E e s'') (fun e' s''=>CX outer H s E e' s'') s'
theorem U7 {sc:Scope}{n:Nat}{x:Str}(h:sc.names.lookup x=some .cell):∃c,(cellsFrom n sc.names []).lookup x=some c:=by
 have q:=PySem.W.cellsFrom_some sc.names n [] (.inl h)
 exact xY.mp q
theorem aL {CX:CXT}{P:Program}{w:World}{K:Frg}{mg:Str->Option Value}{base:Heap}{N ps:List Str}{qual:Str}{scope:Scope}{f:Addr}{cd:Value}{A:Around}{outer:List Env}{s s1:Shared}{H:Hp}{E:XK}{us:List Value}{vs:List V}
   (S:FnScope N ps scope) (hd:A.handled=none) (e0:Env0 P w K mg base A outer s H) (hl:vs.length=ps.length) (r:Vals vs us)
   (x:InCallC s s.heap.objs.size (bindL (envOfC qual scope s.heap.objs.size f cd).kindOf (ps.zip us) fun _=>none) (cellsFrom (s.heap.objs.size+1) scope.names []) (bindC (envOfC qual scope s.heap.objs.size f cd).kindOf (ps.zip us) fun _=>none) s1) :
   Inv (K7 CX P w K mg base N qual scope f cd A outer s H E) [] (EZ N vs) H s1:=by
 have hpl:ps.length<=N.length:=by have:=congrArg b6J S.pre;rw[a2V] at this;omega
 obtain⟨h1,tk,rfl,hk⟩:=x.done
 have noA:∀b:Addr,b∉(K7 CX P w K mg base N qual scope f cd A outer s H E).ex:=fun b z=>absurd (show b∈([]:List Addr) from z) (by simp)
 refine⟨⟨e0.mod,S.kind,rfl,rfl,zR _,fun y z c h1 h2=>?_,fun y hy=>?_,fun y c _ h=>?_,fun _=>hd,Around.frames_deeper e0.frames,.inr ⟨rfl,rfl⟩,fun b z=>absurd z (noA b),e0.bs,e0.bsz,fun b _ _=>noA b,fun b z=>absurd z (noA b),e0.funs,e0.frf⟩,
   rfl,e0.bare,Un.kept hk,⟨_,x.toInCall.ns,fun i y v h1 h2 h3=>?_⟩,fun y c h=>⟨_,x.cell y c h⟩,e0.hok.fresh (zR _),fun y c h=>?_,fun p hp=>absurd (show p∈([]:List (Addr×Obj)) from hp) (by simp),e0.hok.kept hk,?_⟩
 · exact name_of_addr x.apart (a4Q h1) (a4Q h2)
 · have hy:scope.names.lookup y=some .cell∨scope.names.lookup y=some .free:=hy
   rcases hy with hy | hy
   · exact U7 hy
   · exact absurd rfl (S.nofree _ (a4Q hy))
 · exact xR (x.above y c (a4Q h))
 · have hi:i < vs.length:=by
     unfold EZ at h2
     by_cases hi:i < vs.length
     · exact hi
     · rw[List.getElem?_append_right (by simpa using hi)] at h2
       rw[List.getElem?_replicate] at h2
       split at h2 <;> cases h2
   have ha:vs[i]?=some v:=by
     unfold EZ at h2
     rw[yQ (by simpa using hi),zF] at h2
     cases e:vs[i]? with
     | none=>rw[e] at h2;cases h2
     | some a=>rw[e] at h2;cases h2;rfl
   obtain⟨u,hu,rv⟩:=r.get ha
   have hp:ps[i]?=some y:=by
     rw[← S.pre,List.getElem?_take_of_lt (by omega)];exact h1
   have ndP:ps.Nodup:=by rw[← S.pre];exact S.nd.sublist (List.take_sublist _ _)
   refine⟨u,rv,?_⟩
   rcases S.par y (yN hp) with k | k
   · exact .inl ⟨k,QG ndP hp hu k⟩
   · obtain⟨c,e⟩:=U7 (n:=s.heap.objs.size+1) k
     refine .inr ⟨.inl k,c,e,?_⟩
     have q:=x.cell y c e
     rw[QH ndP hp hu (by show scope.names.lookup y≠_;rw[k];decide)] at q
     exact q
 · exact e0.hok.fresh (xR (x.above y c (a4Q h)))
 · unfold EZ
   show _=N.length
   rw[yY,zX,b0J]
   omega
theorem nU {CX:CXT}{P:Program}{w:World}{K:Frg}{mg:Str->Option Value}{base:Heap}{k:Nat}{f:Addr}{name qual:Str}{params:Arguments}{body:List Stmt}{scope:Scope}{dV kV doc pm cdv ct oc:Value}{an od:Option Addr}
   {osl:Array (Option Value)}{N ps:List Str}{sp:Sp}(lk:K.lookup f=some ⟨oc,od,.func (a6Q name qual params body scope dV kV doc pm an cdv ct),osl⟩) (hcd:b4Q K cdv qual=true) (S:FnScope N ps scope)
   (len:∀vs H Q E,sp vs H Q E->vs.length=ps.length)
   (hbody:∀(A:Around) (outer:List Env) (s:Shared) (H:Hp) (vs:List V) (Q:VK) (E:XK),Room k (A.deeper (envOfC qual scope s.heap.objs.size f cdv))->sp vs H Q E ->
     ∃t,PSs (K7 CX P w K mg base N qual scope f cdv A outer s H E) body t/\t { nx:=fun _ H'=>Q .non H',rt:=Q } (EZ N vs) H) :
   FnOk P w K mg base CX (k+1) f (a6Q name qual params body scope dV kV doc pm an cdv ct) ps sp:=by
 refine⟨len,fun A outer s H args us vs Q E hr e0 hb r hsp=>?_⟩
 have hl:=len _ _ _ _ hsp
 have KX:K.In s.heap:=e0.mod.kin.keeps fun b o e=>(e0.bs b o e).1
 have lim:s.heap.NoLimit:=e0.mod.nolimit.keeps fun b o e=>(e0.bs b o e).1
 have hkind:∀y∈ps.zip us,scope.names.lookup y.1=some .local∨(scope.names.lookup y.1=some .cell/\((cellsFrom (s.heap.objs.size+1) scope.names []).lookup y.1).isSome=true):=fun⟨n,v⟩ hy=>by
   rcases S.par n (b6X hy).1 with q | q
   · exact .inl q
   · exact .inr ⟨q,PySem.W.cellsFrom_some _ _ _ (.inl q)⟩
 refine codeAny_call_function hr.depth (KX _ _ lk) rfl S.co S.gen rfl (PySem.W.codeRec_of KX hcd) (hb _ _ _ _ ?_)
 refine wpAny_newFunctionEnv_cells S.kind hkind fun env he s1 x=>?_
 subst he
 refine⟨lim.keeps x.toInCall.keep,codeAny_func ?_⟩
 obtain⟨t,ht,hq⟩:=hbody A outer s H vs Q E (hr.deeper _) hsp
 have I:Inv (K7 CX P w K mg base N qual scope f cdv A outer s H E) [] (EZ N vs) H s1:=aL S hr.hd e0 hl r x
 refine wpAny_mono (ht [] s1 (EZ N vs) H _ I hq) (fun fl s' hs=>?_) fun e s' hs=>hs
 have fin:∀{σ':St}{H':Hp}{v:V}{u:Value},Inv (K7 CX P w K mg base N qual scope f cdv A outer s H E) [] σ' H' s'->RelV v u->Q v H'->CE outer P w H s Q u s':=
   fun {σ' H' v u} J rv q=>⟨v,H',J.os,J.bare,J.base,J.hok,rv,q⟩
 cases fl with
 | ret u=>
   obtain⟨v,σ',H',J,rv,q⟩:=hs
   exact fin J rv q
 | next=>
   obtain⟨σ',H',J,q⟩:=hs
   exact fin (v:=V.non) (u:=a1J) J rfl q
 | brk=>
   obtain⟨_,_,_,q⟩:=hs
   exact a6Z q
 | cont=>
   obtain⟨_,_,_,q⟩:=hs
   exact a6Z q
section
variable {X:Cx}{x:Str}{p pos:Pos}{e:Expr}{es:List Expr}{t:TA}{id T:String}{r:List V->Hp->VK->Prop}
def tCB (r:List V->Hp->VK->Prop) (t:TA):TE:=fun σ H Q=>t σ H fun vs H1=>r vs H1 Q
theorem CB (hc:B2 X (.builtin id) r) (hg:Gl X x) (hm:X.mg x=none) (hv:bootBuiltins x=some (.builtin id)) (ha:PA X (e::es) t) (hn:x ≠ "__name__" := by decide) (hdb:(x==("__debug__":Str))=false:=by decide)
   (he:starEach (e::es) X.env=(false,eval e X.env)::starEach es X.env:=by rfl) (hpl:(backTo pos (starEach es X.env)).any (·.1)=false:=by rfl):PE X (.Call (.Name x p) (e::es) [] pos) (tCB r t):=by
 intro pins s σ H Q I h
 refine wpAny_Call_Name_kw (JO I hg hm hv ?_ hn hdb)
 exact PyProof.Rows.callWith_builtin1 (thn (ha pos pins s σ H _ I h) fun us s1 ⟨vs,H1,I1,r1,q1⟩=>hc pins s1 σ H1 vs us Q I1 r1 q1) he hpl
theorem IT (hc:B2 X (.type T) r) (hg:Gl X x) (hm:X.mg x=none) (hv:bootBuiltins x=some (.type T)) (ha:PA X (e::es) t) (hn:x ≠ "__name__" := by decide) (hdb:(x==("__debug__":Str))=false:=by decide)
   (he:starEach (e::es) X.env=(false,eval e X.env)::starEach es X.env:=by rfl) (hpl:(backTo pos (starEach es X.env)).any (·.1)=false:=by rfl):PE X (.Call (.Name x p) (e::es) [] pos) (tCB r t):=by
 intro pins s σ H Q I h
 refine wpAny_Call_Name_kw (JO I hg hm hv ?_ hn hdb)
 exact xH (thn (ha pos pins s σ H _ I h) fun us s1 ⟨vs,H1,I1,r1,q1⟩=>hc pins s1 σ H1 vs us Q I1 r1 q1) he hpl
end
end L2
namespace HT
open PySem PyProof.Rows
section
variable {prog:Program}{w:World}{A:Around}{E:Value->Shared->Prop}{s:Shared}
def sIx (n d:Nat):Option Int->Nat
 | none=>d
 | some v=>if v < 0 then (v+(n:Int)).toNat else min v.toNat n
theorem sIx_nat (n d k:Nat):sIx n d (some (k:Int))=min k n:=by
 show(if (k:Int) < 0 then ((k:Int)+(n:Int)).toNat else min (k:Int).toNat n)=min k n
 rw[if_neg (by omega),a4K]
theorem pW (n d:Nat) (hd:d<=n) (o:Option Int):sIx n d o<=n:=by
 cases o with
 | none=>exact hd
 | some v=>
   show(if v < 0 then (v+(n:Int)).toNat else min v.toNat n)<=n
   by_cases hv:v < 0
   · rw[if_pos hv];omega
   · rw[if_neg hv];exact Nat.min_le_right _ _
theorem YO (v:Int) (n d:Nat):(if v < 0 then max (v+(n:Int)) 0 else min v (n:Int))=((sIx n d (some v):Nat):Int):=by
 show(if v < 0 then max (v+(n:Int)) 0 else min v (n:Int))=(((if v < 0 then (v+(n:Int)).toNat else min v.toNat n):Nat):Int)
 by_cases hv:v < 0
 · simp only[if_pos hv];omega
 · simp only[if_neg hv];omega
theorem WW (lo hi:Option Int) (n:Nat):b4W lo hi 1 (n:Int)=(((sIx n 0 lo:Nat):Int),((sIx n n hi:Nat):Int)):=by
 have h1:¬((1:Int) < 0):=by omega
 unfold b4W
 simp only[h1,if_false]
 refine Prod.ext ?_ ?_
 · cases lo with
   | none=>rfl
   | some v=>exact YO v n 0
 · cases hi with
   | none=>rfl
   | some v=>exact YO v n n
theorem WX (i j:Nat):a9K (i:Int) (j:Int) 1=j - i:=by
 unfold a9K
 have h1:(1:Int) > 0:=by omega
 simp only[h1,if_true,Int.ediv_one]
 split <;> omega
theorem NO {v:Value}{o:Option Int}{Q:Option Int->Shared->Prop}(p:IsPart v o) (h:Q o s):wpAny (model prog w) A (Builtin.Slice.slicePartIndex v) Q E s:=by
 cases p with
 | none=>exact slicePart_none h
 | int i t=>exact slicePart_int h
theorem FN {sl:Addr}{vl vu:Value}{lo hi:Option Int}{n:Nat}{Q:Int×Int×Nat->Shared->Prop}(hs:s.heap.IsSliceOf sl vl vu .none) (pl:IsPart vl lo) (pu:IsPart vu hi)
   (h:Q (((sIx n 0 lo:Nat):Int),1,sIx n n hi - sIx n 0 lo) s):wpAny (model prog w) A (Builtin.Slice.sliceApplied (.ref sl) (pure (n:Int))) Q E s:=by
 obtain⟨os,hos,hcs,hds⟩:=id hs
 unfold Builtin.Slice.sliceApplied Builtin.Slice.sliceFields
 refine zZ (zZ (wpAny_field hos hds (x:=vl) rfl (zZ (wpAny_field hos hds (x:=vu) rfl (zZ (wpAny_field hos hds (x:=.none) rfl (zY ?_)))))))
 refine zZ (slicePart_none ?_)
 show wpAny _ _ (if ((1:Int)==0)=true then _ else _) _ _ s
 rw[if_neg (by decide)]
 refine zZ (NO pl (zZ (NO pu (zZ (zY ?_)))))
 show wpAny _ _ (match b4W lo hi 1 (n:Int) with | (lo,hi)=>pure (lo,(1:Int),a9K lo hi 1)) _ _ s
 rw[WW lo hi n]
 show wpAny _ _ (pure (((sIx n 0 lo:Nat):Int),(1:Int),a9K ((sIx n 0 lo:Nat):Int) ((sIx n n hi:Nat):Int) 1)) _ _ s
 rw[WX]
 exact zY h
theorem dL (xs:Array Value) (i k:Nat):((a1V k).filterMap fun(m:Nat)=>xs[((i:Int)+(m:Int)*1).toNat]?).toArray=((xs.toList.drop i).take k).toArray:=by
 have e:(fun(m:Nat)=>xs[((i:Int)+(m:Int)*1).toNat]?)=fun m=>xs[i+m]?:=by
   funext m
   have:((i:Int)+(m:Int)*1).toNat=i+m:=by omega
   rw[this]
 rw[e]
 have:=pick_run xs i k
 rw[List.filterMap_map] at this
 have e2:((fun x=>xs[x]?)∘fun x=>i+x)=fun m=>xs[i+m]?:=rfl
 rw[e2] at this
 rw[this]
theorem getItem_tuple_cut {t sl:Addr}{items:Array Value}{vl vu:Value}{lo hi:Option Int}{Q:Value->Shared->Prop}(ht:IsTup s.heap t items) (hs:s.heap.IsSliceOf sl vl vu .none) (pl:IsPart vl lo) (pu:IsPart vu hi)
   (hw:¬(sIx items.size 0 lo=0/\sIx items.size items.size hi=items.size))
   (h:Q (.ref s.heap.objs.size) { s with heap:=s.heap.push { cls:=.type "tuple", data:=.seq ((items.toList.drop (sIx items.size 0 lo)).take (sIx items.size items.size hi - sIx items.size 0 lo)).toArray } })
   (hsz:items.size<=sizeLine):wpAny (model prog w) A (getItem (.ref t) (.ref sl)) Q E s:=by
 have htake:sizeOk (.seq ((items.toList.drop (sIx items.size 0 lo)).take (sIx items.size items.size hi - sIx items.size 0 lo)).toArray):=by
   show((items.toList.drop (sIx items.size 0 lo)).take (sIx items.size items.size hi - sIx items.size 0 lo)).toArray.size<=sizeLine
   rw[zJ,a2V,a5X,a4X]
   omega
 have hj:sIx items.size items.size hi<=items.size:=pW _ _ (zR _) hi
 obtain⟨os,hos,hcs,hds⟩:=id hs
 have hTs:s.TypeIs (.ref sl) "slice" := ⟨os,hos,hcs⟩
 unfold getItem
 try with_reducible refine wpAny_holding ?_
 first | refine zZ (zY ?_) | skip
 refine zZ (wpAny_sequenceKey ht.typeIs (by decide) ?_)
 refine zZ (wpAny_callSpecial?_slot (name:=a0Q "__getitem__") ht.typeIs a6X
   (wpAny_call_entry a6X ht.typeIs entry_tuple_getitem ?_ (args_tuple_getitem _ _)))
 show wpAny _ _ (Builtin.Tuple.tupleItemsOf (.ref t) >>= _) _ _ s
 refine zZ (tupleItemsOf_ ht ?_)
 refine zZ (wpAny_typeOf hTs ?_)
 rw[if_pos (by decide)]
 refine zZ (FN hs pl pu ?_)
 have hno:¬((((sIx items.size 0 lo:Nat):Int)==0&&(1:Int)==1&&(sIx items.size items.size hi - sIx items.size 0 lo)==items.size)=true):=by
   intro q
   rw[a0V,a0V] at q
   have q1:((sIx items.size 0 lo:Nat):Int)=0:=eq_of_beq q.1.1
   have q2:sIx items.size items.size hi - sIx items.size 0 lo=items.size:=eq_of_beq q.2
   exact hw ⟨by omega,by omega⟩
 show wpAny _ _ (if (((sIx items.size 0 lo:Nat):Int)==0&&(1:Int)==1&&(sIx items.size items.size hi - sIx items.size 0 lo)==items.size)=true then _ else _) _ _ s
 rw[if_neg hno,dL]
 first
   | exact zZ (m:=b0Z _) (xM (zY ⟨_,rfl,zY h⟩) htake)
   | exact zZ (m:=b0Z _) (xM (zZ (zY (zY ⟨_,rfl,zY h⟩))) htake)
   | exact zZ (zZ (m:=b0Z _) (xM (zY (zY ⟨_,rfl,zY h⟩)) htake))
   | exact zZ (zZ (m:=b0Z _) (xM (zY ⟨_,rfl,zY h⟩) htake))
end
end HT
namespace L2
open PySem PySem.Spec PyProof.Rows
abbrev TO:=St->Hp->(Option Int->Hp->Prop)->Prop
def PO (X:Cx) (e:Option Expr) (t:TO):Prop:=
 ∀(pins:List (Addr×Obj)) (s:Shared) (σ:St) (H:Hp) (Q:Option Int->Hp->Prop),Inv X pins σ H s->t σ H Q ->
   wpAny (model X.prog X.w) X.A (evalPart e X.env) (fun u s'=>∃o H',Inv X pins σ H' s'/\IsPart u o/\Q o H') X.xe s
def YQ:TO:=fun _ H Q=>Q none H
def nV (t:TE):TO:=fun σ H Q=>t σ H fun x H1=>∃i,x = .int i/\Q (some i) H1
section
variable {X:Cx}{e:Expr}{te:TE}{lo hi:Option Expr}{tl th:TO}{pos p2:Pos}
theorem k9:PO X none YQ:=by
 intro pins s σ H Q I h
 rw[evalPart_none]
 exact zY ⟨none,H,I,.none,h⟩
theorem kA (h:PE X e te):PO X (some e) (nV te):=by
 intro pins s σ H Q I hw
 rw[evalPart_some]
 refine thn (h pins s σ H _ I hw) fun u s1 ⟨x,H1,I1,r1,q1⟩=>?_
 obtain⟨i,rfl,q⟩:=q1
 obtain⟨t,rfl⟩:=r1
 exact⟨some i,H1,I1,.int i t,q⟩
def SlR (X:Cx) (r:V->Option Int->Option Int->Hp->VK->Prop):Prop:=
 ∀(pins:List (Addr×Obj)) (s:Shared) (σ:St) (H:Hp) (x:V) (v vl vu:Value) (lo hi:Option Int) (sl:Addr) (Q:VK),Inv X pins σ H s->RelV x v->s.heap.IsSliceOf sl vl vu .none->IsPart vl lo->IsPart vu hi->r x lo hi H Q ->
   ∃T id,typeLookup (.type T) "__getitem__"=pure (some (.builtin id))/\s.TypeIs v T/\wpAny (model X.prog X.w) X.A (getItem v (.ref sl)) (EP X pins σ Q) X.xe s
theorem SlR.or {r r':V->Option Int->Option Int->Hp->VK->Prop}(h:SlR X r) (h':SlR X r'):SlR X (fun x lo hi H Q=>r x lo hi H Q∨r' x lo hi H Q):=by
 intro pins s σ H x v vl vu lo hi sl Q I rx hs pl pu q
 rcases q with q | q
 · exact h pins s σ H x v vl vu lo hi sl Q I rx hs pl pu q
 · exact h' pins s σ H x v vl vu lo hi sl Q I rx hs pl pu q
def tSl (r:V->Option Int->Option Int->Hp->VK->Prop) (te:TE) (tl th:TO):TE:=fun σ H Q=>te σ H fun x H1=>tl σ H1 fun l H2=>th σ H2 fun u H3=>r x l u H3 Q
theorem dM {r:V->Option Int->Option Int->Hp->VK->Prop}(hr:SlR X r) (he:PE X e te) (hl:PO X lo tl) (hu:PO X hi th):PE X (.Subscript e (.Slice lo hi none p2) pos) (tSl r te tl th):=by
 intro pins s σ H Q I h
 refine Subscript_ (thn (he pins s σ H _ I h) fun v s1 ⟨x,H1,I1,r1,q1⟩=>?_)
 refine wpAny_Slice (thn (hl pins s1 σ H1 _ I1 q1) fun vl s2 ⟨l,H2,I2,pl,q2⟩=>thn (hu pins s2 σ H2 _ I2 q2) fun vu s3 ⟨u,H3,I3,pu,q3⟩=>?_)
 rw[evalPart_none]
 refine zY ?_
 have I4:Inv X pins σ H3 { s3 with heap:=s3.heap.push { cls:=.type "slice", data:=.fields #[vl,vu,.none] } }:=I3.kept (t':=s3.toks) fun b ob q=>zW _ q
 obtain⟨T,id,hT,ht,hg⟩:=hr pins { s3 with heap:=s3.heap.push { cls:=.type "slice", data:=.fields #[vl,vu,.none] } } σ H3 x v vl vu l u s3.heap.objs.size Q I4 r1 (Heap.IsSliceOf.new ..) pl pu q3
 show wpAny (model X.prog X.w) X.A (subscriptTail e (.Slice lo hi none p2) v (.ref s3.heap.objs.size)) (EP X pins σ Q) X.xe { s3 with heap:=s3.heap.push { cls:=.type "slice", data:=.fields #[vl,vu,.none] } }
 exact tail_any (ops:=[.ref s3.heap.objs.size,v]) ht hT hg (by with_unfolding_all rfl)
def JQ (xs:List V) (lo hi:Option Int):List V:=(xs.drop (HT.sIx xs.length 0 lo)).take (HT.sIx xs.length xs.length hi - HT.sIx xs.length 0 lo)
theorem M8 (xs:List V) (lo hi:Option Int):(JQ xs lo hi).length<=xs.length:=by
 unfold JQ
 rw[a2V,a5X]
 omega
def vF (K:Frg):V->Option Int->Option Int->Hp->VK->Prop:=fun x lo hi H Q=>∃a xs,x = .ref a/\SqT K H a xs /\
 ¬(HT.sIx xs.length 0 lo=0/\HT.sIx xs.length xs.length hi=xs.length)/\∀p,H p=none->Q (.ref p) (upd H p (.tup (JQ xs lo hi)))
theorem pX:SlR X (vF X.K):=by
 intro pins s σ H x v vl vu lo hi sl Q I rx hs pl pu h
 obtain⟨a,xs,rfl,hx,hw,q⟩:=h
 cases rx
 obtain⟨its,r,ht,hz⟩:=I.tuple hx
 have hlen:its.toArray.size=xs.length:=by rw[zJ];exact r.length.symm
 refine⟨"tuple", _,PyProof.Rows.slot_tuple_getitem.lookup,ht.typeIs,?_⟩
 refine HT.getItem_tuple_cut ht hs pl pu (by rw[hlen];exact hw) ?_ (by rw[hlen];exact hz)
 rw[hlen]
 refine⟨.ref s.heap.objs.size,_,I.laid (t':=s.toks) (o:=.tup (JQ xs lo hi)) (fun b ob q=>zW _ q) (zR _) ?_,rfl,q _ (I.hok.fresh (zR _))⟩
 exact⟨zN (M8 xs lo hi) hz,_,(r.drop (HT.sIx xs.length 0 lo)).take (HT.sIx xs.length xs.length hi - HT.sIx xs.length 0 lo),IsTup.new _ _⟩
end
def ixN (n:Nat) (i:Int):Option Nat:=if 0<=i then (if i < n then some i.toNat else none) else if -(n:Int)<=i then some (i+n).toNat else none
def atI {α:Type}(xs:List α) (i:Int):Option α:=(ixN xs.length i).bind fun j=>xs[j]?
theorem YR {n:Nat}{i:Int}{j:Nat}(h:ixN n i=some j):seqIndex? i n=some j/\j < n/\-(n:Int)<=i/\i < n:=by
 unfold ixN at h
 by_cases h0:0<=i
 · rw[if_pos h0] at h
   by_cases h1:i < n
   · rw[if_pos h1] at h
     have e:i.toNat=j:=Option.some.inj h
     exact⟨by rw[seqIndex_of h0 h1,e],by omega,by omega,h1⟩
   · rw[if_neg h1] at h;cases h
 · rw[if_neg h0] at h
   by_cases h1 : -(n:Int)<=i
   · rw[if_pos h1] at h
     have e:(i+n).toNat=j:=Option.some.inj h
     exact⟨by rw[seqIndex_neg (by omega) h1,e],by omega,h1,by omega⟩
   · rw[if_neg h1] at h;cases h
theorem RX {α:Type}{xs:List α}{i:Int}{v:α}(h:atI xs i=some v):∃j,seqIndex? i xs.length=some j/\xs[j]?=some v/\j < xs.length/\-(xs.length:Int)<=i/\i < xs.length:=by
 unfold atI at h
 cases e:ixN xs.length i with
 | none=>rw[e] at h;cases h
 | some j=>
   rw[e] at h
   obtain⟨h1,h2,h3,h4⟩:=YR e
   exact⟨j,h1,h,h2,h3,h4⟩
theorem AB {α:Type}{xs:List α}{j:Nat}{v:α}(h:xs[j]?=some v):atI xs (j:Int)=some v:=by
 have hj:j < xs.length:=(yT.mp h).1
 have e:ixN xs.length (j:Int)=some j:=by
   unfold ixN
   rw[if_pos (by omega),if_pos (by omega)];simp
 unfold atI;rw[e];exact h
def kB (b:Expr):Prop:=∀o i,subscripted b false o i=operate [o,i] (getItem o i)
def IxR (X:Cx) (r:R2):Prop:=
 ∀(value slice:Expr) (pins:List (Addr×Obj)) (s:Shared) (σ:St) (H:Hp) (x y:V) (v u:Value) (Q:VK),Inv X pins σ H s->RelV x v->RelV y u->r x y H Q ->
   subscripted slice false v u=operate [v,u] (getItem v u)->wpAny (model X.prog X.w) X.A (subscriptTail value slice v u) (EP X pins σ Q) X.xe s
def MtR (X:Cx) (id:String) (r:V->List V->Hp->VK->Prop):Prop:=
 ∀(pins:List (Addr×Obj)) (s:Shared) (σ:St) (H:Hp) (x:V) (xs:List V) (v:Value) (us:List Value) (Q:VK),Inv X pins σ H s->RelV x v->Vals xs us->r x xs H Q ->
   wpAny (model X.prog X.w) X.A (call (.builtin id) (v::us)) (EP X pins σ Q) X.xe s
section
variable {X:Cx}{a b:Expr}{ta tb:TE}{pos:Pos}
theorem IxR.or {r r':R2}(h:IxR X r) (h':IxR X r'):IxR X (fun x y H Q=>r x y H Q∨r' x y H Q):=by
 intro value slice pins s σ H x y v u Q I rx ry q hs
 rcases q with q | q
 · exact h value slice pins s σ H x y v u Q I rx ry q hs
 · exact h' value slice pins s σ H x y v u Q I rx ry q hs
theorem tM {r:R2}(hr:IxR X r) (ha:PE X a ta) (hb:PE X b tb) (hs:kB b):PE X (.Subscript a b pos) (tOp r ta tb):=by
 intro pins s σ H Q I h
 exact Subscript_ (pL ha hb I h fun v u s2 x y H2 I2 rx ry q=>hr a b pins s2 σ H2 x y v u Q I2 rx ry q (hs _ _))
def kC (K:Frg):R2:=fun x y H Q=>∃p xs i v,x = .ref p/\y = .int i/\SqL K H p xs/\atI xs i=some v/\Q v H
def pY (K:Frg):R2:=fun x y H Q=>∃p xs i v,x = .ref p/\y = .int i/\SqT K H p xs/\atI xs i=some v/\Q v H
def pZ:R2:=fun x y H Q=>∃z i c,x = .str z/\y = .int i/\z.length<=sizeLine/\atI z.cps.toList i=some c/\Q (.str ⟨#[c]⟩) H
theorem kD:IxR X (kC X.K):=by
 intro value slice pins s σ H x y v u Q I rx ry h hs
 obtain⟨p,xs,i,z,rfl,rfl,hq,he,q⟩:=h
 cases rx
 obtain⟨t,rfl⟩:=ry
 obtain⟨its,r,pl,hz⟩:=I.list hq
 obtain⟨j,h1,h2,h3,h4,h5⟩:=RX he
 obtain⟨w,ew,rw'⟩:=r.get h2
 have hl:=r.length
 have hn:=NN
 have fin:EP X pins σ Q w s:=⟨z,H,I,rw',q⟩
 by_cases h0:0<=i
 · have hj:i.toNat=j:=by
     rw[seqIndex_of h0 h5] at h1
     exact Option.some.inj h1
   exact item_listR pl.isList h0 (by omega) (by rw[hj];simpa using ew) fin hs
 · have hj:(i+(its.toArray.size:Int)).toNat=j:=by
     rw[seqIndex_neg (by omega) h4] at h1
     rw[zJ,← hl]
     exact Option.some.inj h1
   exact subscriptTail_builtinR (x:=w) pl.isList.typeIs slot_list_getitem.lookup
     (wpAny_getItem_list_neg (Q:=fun r s'=>r=w/\EP X pins σ Q r s') pl.isList (by omega) (by rw[zJ] <;> omega) (by omega) (by rw[hj];simpa using ew) ⟨rfl,fin⟩) hs
theorem qA:IxR X (pY X.K):=by
 intro value slice pins s σ H x y v u Q I rx ry h hs
 obtain⟨p,xs,i,z,rfl,rfl,hq,he,q⟩:=h
 cases rx
 obtain⟨t,rfl⟩:=ry
 obtain⟨its,r,pl,hz⟩:=I.tuple hq
 obtain⟨j,h1,h2,h3,h4,h5⟩:=RX he
 obtain⟨w,ew,rw'⟩:=r.get h2
 have hl:=r.length
 have hn:=NN
 have fin:EP X pins σ Q w s:=⟨z,H,I,rw',q⟩
 exact subscriptTail_builtinR (x:=w) pl.typeIs slot_tuple_getitem.lookup
   (getItem_tuple (j:=j) (Q:=fun r s'=>r=w/\EP X pins σ Q r s') pl (by omega) (by omega) (by rw[zJ,← hl];exact h1) (by simpa using ew) ⟨rfl,fin⟩) hs
theorem qB:IxR X pZ:=by
 intro value slice pins s σ H x y v u Q I rx ry h hs
 obtain⟨z,i,c,rfl,rfl,hz,he,q⟩:=h
 obtain⟨t,rfl⟩:=rx
 obtain⟨t',rfl⟩:=ry
 obtain⟨j,h1,h2,h3,h4,h5⟩:=RX he
 have hl:z.cps.toList.length=z.length:=by simp[Str.length]
 rw[hl] at h1 h4 h5
 have hn:=NN
 exact tail_any (typeIs_str s z t) slot_str_getitem.lookup (getItem_str (c:=c) (by
   have e1:decide (i < -(2 ^ 63:Int))=false:=decide_eq_false (by omega)
   have e2:decide (i≥2 ^ 63)=false:=decide_eq_false (by omega)
   rw[e1,e2,Bool.or_false]) (by rw[h1];simpa using h2) ⟨.str ⟨#[c]⟩,H,I.tok _,⟨_,rfl⟩,q⟩) hs
theorem WY (its:List Value) (n j:Nat) (u:Value):a6V (·.setIfInBounds j u) { cls:=.type "list", data:=.seq its.toArray n }={ cls:=.type "list", data:=.seq (its.set j u).toArray n }:=by
 simp[a6V]
theorem Inv.lst {pins:List (Addr×Obj)}{σ:St}{H:Hp}{s:Shared}{p:Addr}{xs:List V}(I:Inv X pins σ H s) (h:H p=some (.lst xs)) :
   ∃(its:List Value) (n:Nat),Vals xs its/\s.heap.get? p=some { cls:=.type "list", data:=.seq its.toArray n }/\xs.length<=sizeLine:=by
 obtain⟨z,its,n,r,e⟩:=I.hok p _ h
 exact⟨its,n,r,e,z⟩
theorem Inv.lstUpd {pins:List (Addr×Obj)}{σ:St}{H:Hp}{s:Shared}{p:Addr}{xs ys:List V}{its its':List Value}{n n':Nat}{f:Obj->Obj}(I:Inv X pins σ H s) (h:H p=some (.lst xs))
   (ho:s.heap.get? p=some { cls:=.type "list", data:=.seq its.toArray n }) (hf:f { cls:=.type "list", data:=.seq its.toArray n }={ cls:=.type "list", data:=.seq its'.toArray n' }) (r:Vals ys its') (hz:ys.length<=sizeLine) (t:Nat) :
   Inv X pins σ (upd H p (.lst ys)) { s with heap:=s.heap.update p f,toks:=t }:=by
 have e:(s.heap.update p f).get? p=some { cls:=.type "list", data:=.seq its'.toArray n' }:=by
   rw[a7Q f ho (by rw[hf] <;> rfl),hf]
 refine I.write (x:=p) (e:=p) (by rw[h];trivial) (.inl rfl) (fun b u hb q=>(yC _ _ (a8J hb)).trans q) ⟨_,e⟩ ?_
 exact⟨hz,its',n',r,e⟩
def nX:V->V->V->Hp->(Hp->Prop)->Prop:=fun o i v H Q=>∃p xs k j,o = .ref p/\i = .int k/\H p=some (.lst xs)/\ixN xs.length k=some j/\Q (upd H p (.lst (xs.set j v)))
theorem dN:t9 X nX:=by
 intro pins s σ H o i v ov iv u Q I ro ri rv h
 obtain⟨p,xs,k,j,rfl,rfl,hp,hj,q⟩:=h
 cases ro
 obtain⟨t,rfl⟩:=ri
 obtain⟨its,n,r,ho,hz⟩:=I.lst hp
 obtain⟨h1,h2,h3,h4⟩:=YR hj
 have hl:=r.length
 have hn:=NN
 have I':Inv X pins σ (upd H p (.lst (xs.set j v))) { s with heap:=s.heap.update p (a6V (·.setIfInBounds j u)) }:=
   I.lstUpd hp ho (WY its n j u) (r.set rv j) (by rw[b2W];exact hz) s.toks
 by_cases h0:0<=k
 · have hk:k.toNat=j:=by
     rw[seqIndex_of h0 h4] at h1
     exact Option.some.inj h1
   exact PySem.W.ki_setAt ho h0 (by omega) (by rw[zJ,← hl];exact h4) (by rw[hk];exact⟨_,I',q⟩)
 · have hk:(k+(its.toArray.size:Int)).toNat=j:=by
     rw[seqIndex_neg (by omega) h3] at h1
     rw[zJ,← hl]
     exact Option.some.inj h1
   exact PySem.W.ki_setBack ho (by omega) (by rw[zJ,← hl];exact h3) (by omega) (by rw[hk];exact⟨_,I',q⟩)
theorem RY (lo hi:Option Int) (n:Nat):(sliceBounds lo hi none n).1=((HT.sIx n 0 lo:Nat):Int)/\(sliceBounds lo hi none n).2.1=((HT.sIx n n hi:Nat):Int)/\(sliceBounds lo hi none n).2.2=1:=by
 refine⟨?_,?_,rfl⟩
 · cases lo with
   | none=>simp[sliceBounds,HT.sIx]
   | some i=>
     simp only[sliceBounds,HT.sIx,Option.getD_none,show(1:Int) > 0 by decide,if_true]
     by_cases h:i < 0
     · simp only[h,if_true] <;> omega
     · simp only[h,if_false] <;> omega
 · cases hi with
   | none=>simp[sliceBounds,HT.sIx]
   | some i=>
     simp only[sliceBounds,HT.sIx,Option.getD_none,show(1:Int) > 0 by decide,if_true]
     by_cases h:i < 0
     · simp only[h,if_true] <;> omega
     · simp only[h,if_false] <;> omega
theorem PR (its:List Value) (lo hi:Option Int):slicePick its.toArray lo hi none=((its.drop (HT.sIx its.length 0 lo)).take (HT.sIx its.length its.length hi - HT.sIx its.length 0 lo)).toArray:=by
 obtain⟨h1,h2,h3⟩:=RY lo hi its.toArray.size
 unfold slicePick
 rw[h1,h2,h3]
 simp only[sliceRange_one,pick_run,zJ] <;> rfl
def qC (K:Frg):V->Option Int->Option Int->Hp->VK->Prop:=fun x lo hi H Q=>∃a xs,x = .ref a/\SqL K H a xs/\∀p,H p=none->Q (.ref p) (upd H p (.lst (JQ xs lo hi)))
theorem kE:SlR X (qC X.K):=by
 intro pins s σ H x v vl vu lo hi sl Q I rx hs pl pu h
 obtain⟨a,xs,rfl,hx,q⟩:=h
 cases rx
 obtain⟨its,r,ht,hz⟩:=I.list hx
 have hlen:=r.length
 refine⟨"list", _,slot_list_getitem.lookup,ht.isList.typeIs,?_⟩
 refine wpAny_getItem_list_slice ht.isList hs pl pu .none (by simp) ?_ (by rw[zJ] <;> omega)
 rw[PR,← hlen]
 refine⟨.ref s.heap.objs.size,_,I.laid (t':=s.toks) (o:=.lst (JQ xs lo hi)) (fun b ob q=>zW _ q) (zR _) ?_,rfl,q _ (I.hok.fresh (zR _))⟩
 exact⟨zN (M8 xs lo hi) hz,_,0,(r.drop (HT.sIx xs.length 0 lo)).take (HT.sIx xs.length xs.length hi - HT.sIx xs.length 0 lo),yZ _ rfl⟩
def J8:V->Bool
 | .non=>true
 | .bl _=>true
 | .int _=>true
 | .str _=>true
 | _=>false
def eqV:V->V->Bool
 | .non,.non=>true
 | .bl a,.bl b=>a==b
 | .bl a,.int b=>(if a then 1 else 0)==b
 | .int a,.bl b=>a==(if b then 1 else 0)
 | .int a,.int b=>a==b
 | .str a,.str b=>a==b
 | _,_=>false
theorem qD {A:Around}{s:Shared}{y x:V}{u v:Value}(ry:RelV y u) (rx:RelV x v) (fy:J8 y=true) (fx:J8 x=true):SeqAt.EqAt A s u v (eqV y x):=by
 cases y with
 | non=>
   cases ry
   cases x with
   | non=>cases rx;exact SeqAt.EqAt.same _
   | bl b=>cases rx;exact SeqAt.EqAt.none_bool b
   | int b=>obtain⟨t,rfl⟩:=rx;exact SeqAt.EqAt.none_int b t
   | str b=>obtain⟨t,rfl⟩:=rx;exact SeqAt.EqAt.none_str b t
   | _=>exact absurd (show false=true from fx) nft
 | bl a=>
   cases ry
   cases x with
   | non=>cases rx;exact SeqAt.EqAt.bool_none a
   | bl b=>cases rx;exact SeqAt.EqAt.bool_bool a b
   | int b=>obtain⟨t,rfl⟩:=rx;exact SeqAt.EqAt.bool_int a b t
   | str b=>obtain⟨t,rfl⟩:=rx;exact SeqAt.EqAt.bool_str a b t
   | _=>exact absurd (show false=true from fx) nft
 | int a=>
   obtain⟨t',rfl⟩:=ry
   cases x with
   | non=>cases rx;exact SeqAt.EqAt.int_none a t'
   | bl b=>cases rx;exact SeqAt.EqAt.int_bool a t' b
   | int b=>obtain⟨t,rfl⟩:=rx;exact SeqAt.EqAt.int_int a t' b t
   | str b=>obtain⟨t,rfl⟩:=rx;exact SeqAt.EqAt.int_str a t' b t
   | _=>exact absurd (show false=true from fx) nft
 | str a=>
   obtain⟨t',rfl⟩:=ry
   cases x with
   | non=>cases rx;exact SeqAt.EqAt.str_none a t'
   | bl b=>cases rx;exact SeqAt.EqAt.str_bool a t' b
   | int b=>obtain⟨t,rfl⟩:=rx;exact SeqAt.EqAt.str_int a t' b t
   | str b=>obtain⟨t,rfl⟩:=rx;exact SeqAt.EqAt.str_str a t' b t
   | _=>exact absurd (show false=true from fx) nft
 | _=>exact absurd (show false=true from fy) nft
def eqU (x:V) (u:Value):Bool:=match u with
 | .none=>eqV .non x
 | .bool b=>eqV (.bl b) x
 | .int i _=>eqV (.int i) x
 | .str z _=>eqV (.str z) x
 | _=>false
theorem dO {x y:V}{u:Value}(r:RelV y u) (f:J8 y=true):eqU x u=eqV y x:=by
 cases y with
 | non=>cases r;rfl
 | bl b=>cases r;rfl
 | int i=>obtain⟨t,rfl⟩:=r;rfl
 | str z=>obtain⟨t,rfl⟩:=r;rfl
 | _=>exact absurd (show false=true from f) nft
theorem RZ {x:V}:∀{xs:List V}{us:List Value},Vals xs us->xs.all J8=true->us.any (eqU x)=xs.any fun y=>eqV y x
 | _,_,.nil,_=>rfl
 | y::xs,u::us,.cons r t,f=>by
   rw[List.all_cons,a0V] at f
   rw[b2V,b2V,dO r f.1,RZ t f.2]
theorem NP {A:Around}{s:Shared}{x:V}{v:Value}(rx:RelV x v) (fx:J8 x=true):∀{xs:List V}{us:List Value},Vals xs us->xs.all J8=true->∀u∈us,SeqAt.EqAt A s u v (eqU x u)
 | _,_,.nil,_=>fun u hu=>by cases hu
 | y::xs,u::us,.cons r t,f=>fun u' hu=>by
   rw[List.all_cons,a0V] at f
   rcases yX.mp hu with rfl | hu
   · rw[dO r f.1];exact qD r rx f.1 fx
   · exact NP rx fx t f.2 u' hu
def inV (x:V) (xs:List V):Bool:=xs.any fun y=>eqV y x
def rIn (K:Frg) (neg:Bool):R2:=fun x y H Q=>∃p xs,y = .ref p/\(SqL K H p xs∨SqT K H p xs)/\J8 x=true/\xs.all J8=true/\Q (.bl (if neg then !inV x xs else inV x xs)) H
theorem aM:OpR X (compareOp .In) (rIn X.K false):=by
 intro pins s σ H x y v u Q I rx ry h
 obtain⟨p,xs,rfl,hq,fx,fs,q⟩:=h
 cases ry
 rcases hq with hq | hq
 · obtain⟨its,r,pl,hz⟩:=I.list hq
   refine SeqAt.in_listAt (eqU x) pl.isList (fun w hw=>NP rx fx r fs w (by simpa using hw)) ⟨.bl _,H,I,rfl,?_⟩
   rw[show its.toArray.any (eqU x)=its.any (eqU x) by simp,RZ r fs]
   exact q
 · obtain⟨its,r,pl,hz⟩:=I.tuple hq
   refine SeqAt.in_tupleAt (eqU x) pl (fun w hw=>NP rx fx r fs w (by simpa using hw)) ⟨.bl _,H,I,rfl,?_⟩
   rw[show its.toArray.any (eqU x)=its.any (eqU x) by simp,RZ r fs]
   exact q
theorem S0:B2 X (.type "list") (fun xs H Q=>∃p ys,xs=[.ref p]/\(SqL X.K H p ys∨SqT X.K H p ys)/\∀l,H l=none->Q (.ref l) (upd H l (.lst ys))):=by
 intro pins s σ H xs us Q I r h
 obtain⟨p,ys,rfl,hq,q⟩:=h
 obtain⟨u,rfl,rx⟩:=DN r
 cases rx
 have fin:∀(its:List Value),Vals ys its->ys.length<=sizeLine->∀(h':Heap) (c':Nat),(∀b o',s.heap.get? b=some o'->h'.get? b=some o') ->
     h'.get? s.heap.objs.size=some { cls:=.type "list", dict:=none,data:=.seq its.toArray c',slots:=#[] }->EP X pins σ Q (.ref s.heap.objs.size) { s with heap:=h' }:=fun its r' hz h' c' kp e=>
   ⟨.ref s.heap.objs.size,_,I.laid (t':=s.toks) kp (zR _) (show ObjOk X.prog X.w _ h' _ (.lst ys) from ⟨hz,its,c',r',e⟩),rfl,q _ (I.hok.fresh (zR _))⟩
 rcases hq with hq | hq
 · obtain⟨its,r',pl,hz⟩:=I.list hq
   have hlen:=r'.length
   obtain⟨o,ho,hc,n,hd⟩:=pl.isList
   exact call_list_seq p (.inl rfl) ho hc hd (fun h' c' kp e=>fin its r' hz h' c' kp e) (by simp only[zJ] <;> omega)
 · obtain⟨its,r',pl,hz⟩:=I.tuple hq
   have hlen:=r'.length
   obtain⟨o,ho,hc,n,hd⟩:=pl
   exact call_list_seq p (.inr rfl) ho hc hd (fun h' c' kp e=>fin its r' hz h' c' kp e) (by simp only[zJ] <;> omega)
theorem PU:B2 X (.type "tuple") (fun xs H Q=>∃p ys,xs=[.ref p]/\((SqL X.K H p ys/\∀l,H l=none->Q (.ref l) (upd H l (.tup ys)))∨(SqT X.K H p ys/\Q (.ref p) H))):=by
 intro pins s σ H xs us Q I r h
 obtain⟨p,ys,rfl,h⟩:=h
 obtain⟨u,rfl,rx⟩:=DN r
 cases rx
 rcases h with ⟨hq,q⟩ | ⟨hq,q⟩
 · obtain⟨its,r',pl,hz⟩:=I.list hq
   have hlen:=r'.length
   refine call_tuple_list pl.isList (fun h' kp=>?_) (by simp only[zJ] <;> omega)
   have I1:Inv X pins σ H { s with heap:=h' }:=I.kept (t':=s.toks) kp
   have I2:Inv X pins σ (upd H h'.objs.size (.tup ys)) { s with heap:=h'.push { cls:=.type "tuple", data:=.seq its.toArray } }:=
     I1.laid (t':=s.toks) (fun b o e=>zW _ e) (zR _) (show ObjOk X.prog X.w _ _ _ (.tup ys) from ⟨hz,its,r',IsTup.new _ _⟩)
   exact⟨.ref h'.objs.size,_,I2,rfl,q _ (I1.hok.fresh (zR _))⟩
 · obtain⟨its,r',pl,hz⟩:=I.tuple hq
   exact call_tuple_same pl ⟨.ref p,H,I,rfl,q⟩
def tyV (K:Frg) (T:String) (x:V) (H:Hp):Prop:=match x with
 | .str _=>T = "str"
 | .int _=>T = "int"
 | .ref p=>(T = "list" /\ ∃xs,SqL K H p xs)∨(T = "tuple" /\ ∃o,K.lookup p=some o/\o.cls = .type "tuple" /\ o.dict=none) ∨
     (T = "dict" /\ ((∃kvs,H p=some (.dK kvs))∨∃kvs,H p=some (.dT kvs)))∨(T = "set" /\ ∃S n,H p=some (.set S n))
 | _=>False
theorem qE {pins:List (Addr×Obj)}{σ:St}{H:Hp}{s:Shared}{T:String}{x:V}{v:Value}(I:Inv X pins σ H s) (r:RelV x v) (ty:tyV X.K T x H) :
   s.TypeIs v T/\∀a,v = .ref a->∃ob,s.heap.get? a=some ob/\ob.dict=none:=by
 cases x with
 | str z=>
   obtain⟨t,rfl⟩:=r
   cases (show T = "str" from ty)
   exact⟨typeIs_str s z t,fun _ e=>nomatch e⟩
 | int i=>
   obtain⟨t,rfl⟩:=r
   cases (show T = "int" from ty)
   exact⟨typeIs_int s i t,fun _ e=>nomatch e⟩
 | ref p=>
   cases r
   rcases ty with ⟨rfl,xs,hq⟩ | ⟨rfl,o,hk,hc,hd⟩ | ⟨rfl,hk⟩ | ⟨rfl,S,n,hk⟩
   · obtain⟨its,_,pl,_⟩:=I.list hq
     refine⟨pl.isList.typeIs,fun a e=>?_⟩
     cases e
     obtain⟨o,n,e,c,hd,_⟩:=pl
     exact⟨o,e,hd⟩
   · refine⟨⟨o,I.kIn p o hk,hc⟩,fun a e=>?_⟩
     cases e
     exact⟨o,I.kIn _ o hk,hd⟩
   · have z:∃o,s.heap.get? p=some o/\o.ExactDict:=by
       rcases hk with ⟨kvs,hk⟩ | ⟨kvs,hk⟩
       · obtain⟨_,_,_,_,o,_,_,e,ex,_⟩:=I.hok p _ hk
         exact⟨o,e,ex⟩
       · obtain⟨_,_,_,_,o,_,_,e,ex,_⟩:=I.hok p _ hk
         exact⟨o,e,ex⟩
     obtain⟨o,e,ex⟩:=z
     refine⟨⟨o,e,ex.1⟩,fun a e2=>?_⟩
     cases e2
     exact⟨o,e,ex.2.1⟩
   · obtain⟨o,_,_,_,e,ex,_⟩:=I.hok p _ hk
     refine⟨⟨o,e,ex.1⟩,fun a e2=>?_⟩
     cases e2
     exact⟨o,e,ex.2.1⟩
 | _=>exact a6Z ty
def tBM (K:Frg) (T:String) (r:V->List V->Hp->VK->Prop) (to:TE) (t:TA):TE:=fun σ H Q=>to σ H fun x H1=>tyV K T x H1/\t σ H1 fun xs H2=>r x xs H2 Q
variable {o e:Expr}{es:List Expr}{to:TE}{t:TA}{name:Str}{apos cpos:Pos}{T id:String}{r:V->List V->Hp->VK->Prop}
theorem tN (pa:PlainAttrs T) (slot:Slot T name id) (hty:typeOf (.builtin id)=pure (.type "method_descriptor")) (hm:MtR X id r) (ho:PE X o to) (ha:PA X (e::es) t)
   (hbase:attributeBase o name X.env (eval o X.env)=eval o X.env:=by rfl)
   (hfew:((backTo cpos (starEach (e::es) X.env)).all (fun x=>!x.1)&&(backToKw cpos (keywordEach [] X.env)).all (fun x=>x.1.isSome)
     && decide ((e::es).length+([]:List Keyword).length+(if ([]:List Keyword).isEmpty then 0 else 1) < 30))=true:=by rfl)
   (hline:(apos.endLine==cpos.line)=true:=by rfl) (hs:starEach (e::es) X.env=(false,eval e X.env)::starEach es X.env:=by rfl) (hplain:(backTo cpos (starEach es X.env)).any (·.1)=false:=by rfl) :
   PE X (.Call (.Attribute o name apos) (e::es) [] cpos) (tBM X.K T r to t):=by
 intro pins s σ H Q I h
 refine wpAny_Call_method_late hbase hfew hline rfl (thn (ho pins s σ H _ I h) fun v s1 ⟨x,H1,I1,r1,ty,q1⟩=>?_)
 obtain⟨h1,h2⟩:=qE I1 r1 ty
 refine⟨T,id,pa,slot,hty,h1,h2,?_⟩
 have hA:=ha cpos pins s1 σ H1 _ I1 q1
 rw[hs] at hA ⊢
 refine b4Z (by show(false||(backTo cpos (starEach es X.env)).any (·.1))=false;rw[hplain] <;> rfl) (b4V ?_)
 exact thn hA fun us s2 ⟨vs,H2,I2,r2,q2⟩=>hm pins s2 σ H2 x vs v us Q I2 r1 r2 q2
end
def MtM (X:Cx) (id:String) (r:V->List V->Hp->VK->Prop):Prop:=
 ∀(pins:List (Addr×Obj)) (s:Shared) (σ:St) (H:Hp) (x:V) (xs:List V) (v:Value) (us:List Value) (Q:VK),Inv X pins σ H s->RelV x v->Vals xs us->r x xs H Q ->
   wpAny (model X.prog X.w) X.A (call (.builtin id) (v::us)) (EP X pins σ Q) X.xe s
theorem Vals.one:∀{x:V}{us:List Value},Vals [x] us->∃u,us=[u]/\RelV x u
 | _,_,.cons r .nil=>⟨_,rfl,r⟩
section
variable {X:Cx}{pins:List (Addr×Obj)}{σ:St}{H:Hp}{s:Shared}{l b:Addr}{xs ys zs:List V}
theorem Inv.lset {its its':List Value}{n:Nat}{f:Array Value->Array Value}{t':Nat}(I:Inv X pins σ H s) (hH:H l=some (.lst xs))
   (e:s.heap.get? l=some { cls:=.type "list", data:=.seq its.toArray n }) (hf:f its.toArray=its'.toArray) (hv:Vals ys its') (hz:ys.length<=sizeLine) :
   Inv X pins σ (upd H l (.lst ys)) { s with heap:=s.heap.update l (a6V f),toks:=t' }:=by
 have q:=PySem.IsL.update e f
 rw[hf] at q
 refine I.write (x:=l) (e:=l) (by rw[hH];exact trivial) (.inl rfl) (fun b' u hb hu=>(yC s.heap (a6V f) (a8J hb)).trans hu) ⟨_,q⟩ ?_
 exact⟨hz,its',_,hv,q⟩
theorem Inv.lnew {its:List Value}{t':Nat}(I:Inv X pins σ H s) (hv:Vals ys its) (hz:ys.length<=sizeLine) :
   Inv X pins σ (upd H s.heap.objs.size (.lst ys)) { s with heap:=s.heap.push { cls:=.type "list", data:=.seq its.toArray },toks:=t' }:=
 I.laid (fun _ _ q=>zW _ q) (zR _) ⟨hz,its,0,hv,yZ _ rfl⟩
theorem Inv.fresh (I:Inv X pins σ H s):H s.heap.objs.size=none:=I.hok.fresh (zR _)
theorem Inv.lstM (I:Inv X pins σ H s) (hH:H l=some (.lst xs)):xs.length<=sizeLine/\∃(its:List Value) (n:Nat),Vals xs its/\xs.length=its.length/\s.heap.get? l=some { cls:=.type "list", data:=.seq its.toArray n }:=by
 obtain⟨z,its,n,r,e⟩:=I.hok l _ hH
 exact⟨z,its,n,r,r.length,e⟩
end
section
variable {X:Cx}
def S3:V->List V->Hp->VK->Prop:=fun x vs H Q=>∃l xs y,x = .ref l/\vs=[y]/\H l=some (.lst xs)/\xs.length < sizeLine/\Q .non (upd H l (.lst (xs++[y])))
theorem QJ:MtM X "list.append" S3:=by
 intro pins s σ H x vs v us Q I rx rv h
 obtain⟨l,xs,y,rfl,rfl,hH,hz,q⟩:=h
 cases rx
 obtain⟨u,rfl,ru⟩:=rv.one
 obtain⟨z,its,n,r,hl,e⟩:=I.lstM hH
 refine call_meets F.slot_list_append ⟨_,e,rfl⟩ F.entry_list_append (F.args_list_append_2 _ _) (PySem.list_append l its.toArray n u (by rw[zJ];omega)) ⟨e,?_⟩
 refine⟨.non,_,I.lset (its':=its++[u]) hH e (by simp) (r.append (.cons ru .nil)) ?_,rfl,q⟩
 rw[yY,List.length_singleton]
 omega
end
section
variable {κ:Type}[DecidableEq κ]
def EX (kvs:List (κ×V)) (k:κ):Option V:=(kvs.find? fun kv=>decide (kv.1=k)).map (·.2)
def EH (kvs:List (κ×V)) (k:κ) (v:V):List (κ×V):=
 if (kvs.any fun kv=>decide (kv.1=k))=true then kvs.map (fun kv=>if kv.1=k then (kv.1,v) else kv) else kvs++[(k,v)]
def K8 (kvs:List (κ×V)) (k:κ):List (κ×V):=kvs.filter fun kv=>decide (kv.1≠k)
theorem K9 {p:κ×V}{r:List (κ×V)}{k:κ}(e:p.1=k):EX (p::r) k=some p.2:=by simp[EX,a7V,e]
theorem HN {p:κ×V}{r:List (κ×V)}{k:κ}(e:¬p.1=k):EX (p::r) k=EX r k:=by simp[EX,a7V,e]
theorem U8 (k:κ):∀kvs:List (κ×V),(kvs.any fun kv=>decide (kv.1=k))=(EX kvs k).isSome
 | []=>rfl
 | p::r=>by
   rw[b2V]
   by_cases e:p.1=k
   · simp only[K9 e,decide_eq_true e,Bool.true_or,Option.isSome_some]
   · rw[HN e,decide_eq_false e,Bool.false_or];exact U8 k r
theorem F0 (kvs:List (κ×V)) (k:κ) (v:V):(EH kvs k v).length<=kvs.length+1:=by
 unfold EH
 split
 · rw[zX];omega
 · rw[yY,yR,b0K];omega
theorem RelO.isSome_eq {o:Option V}{u:Option Value}(r:RelO o u):o.isSome=u.isSome:=by
 cases o with
 | none=>cases u with
   | none=>rfl
   | some _=>exact(show False from r).elim
 | some _=>cases u with
   | none=>exact(show False from r).elim
   | some _=>rfl
theorem RelO.getD {o:Option V}{u:Option Value}{d:V}{d':Value}(r:RelO o u) (rd:RelV d d'):RelV (o.getD d) (u.getD d'):=by
 cases o with
 | none=>cases u with
   | none=>exact rd
   | some _=>exact(show False from r).elim
 | some _=>cases u with
   | none=>exact(show False from r).elim
   | some _=>exact r
theorem KV.val {kvs:List (κ×V)}{vs:List (κ×Value)}(r:KV kvs vs) (k:κ):RelO (EX kvs k) (valueAt vs k):=by
 unfold KV at r
 induction r with
 | nil=>exact a6J
 | @cons p q ps qs h t ih=>
   obtain⟨h1,h2⟩:=h
   by_cases e:p.1=k
   · have e':q.1=k:=h1.symm.trans e
     have b:valueAt (q::qs) k=some q.2:=by simp[valueAt,a7V,e']
     rw[K9 e,b];exact h2
   · have e':¬q.1=k:=fun z=>e (h1.trans z)
     have b:valueAt (q::qs) k=valueAt qs k:=by simp[valueAt,a7V,e']
     rw[HN e,b];exact ih
theorem KV.any {kvs:List (κ×V)}{vs:List (κ×Value)}(r:KV kvs vs) (k:κ):(kvs.any fun kv=>decide (kv.1=k))=vs.any fun kv=>decide (kv.1=k):=by
 unfold KV at r
 induction r with
 | nil=>rfl
 | cons h t ih=>rw[b2V,b2V,ih,h.1]
theorem KV.repl {kvs:List (κ×V)}{vs:List (κ×Value)}(r:KV kvs vs) (k:κ) {y:V}{u:Value}(ry:RelV y u) :
   KV (kvs.map fun kv=>if kv.1=k then (kv.1,y) else kv) (vs.map fun kv=>if kv.1=k then (kv.1,u) else kv):=by
 unfold KV at r ⊢
 induction r with
 | nil=>exact .nil
 | @cons p q ps qs h t ih=>
   rw[zI,zI]
   refine .cons ?_ ih
   obtain⟨h1,h2⟩:=h
   by_cases e:p.1=k
   · rw[if_pos e,if_pos (h1.symm.trans e)];exact⟨h1,ry⟩
   · rw[if_neg e,if_neg (fun z=>e (h1.trans z))];exact⟨h1,h2⟩
theorem KV.put {kvs:List (κ×V)}{vs:List (κ×Value)}(r:KV kvs vs) (k:κ) {y:V}{u:Value}(ry:RelV y u):KV (EH kvs k y) (stored vs k u):=by
 unfold EH stored
 rw[r.any k]
 by_cases e:(vs.any fun kv=>decide (kv.1=k))=true
 · rw[if_pos e,if_pos e];exact r.repl k ry
 · rw[if_neg e,if_neg e];exact Paired.snoc r ⟨rfl,ry⟩
theorem KV.drop {kvs:List (κ×V)}{vs:List (κ×Value)}(r:KV kvs vs) (k:κ):KV (K8 kvs k) (without vs k):=by
 unfold KV at r ⊢
 unfold K8 without
 induction r with
 | nil=>exact .nil
 | @cons p q ps qs h t ih=>
   obtain⟨h1,h2⟩:=h
   rw[a6W,a6W]
   by_cases e:p.1=k
   · have a:¬decide (p.1≠k)=true:=by simp[e]
     have b:¬decide (q.1≠k)=true:=by simp[h1.symm.trans e]
     rw[if_neg a,if_neg b];exact ih
   · have e':¬q.1=k:=fun z=>e (h1.trans z)
     have a:decide (p.1≠k)=true:=by simp[e]
     have b:decide (q.1≠k)=true:=by simp[e']
     rw[if_pos a,if_pos b];exact .cons ⟨h1,h2⟩ ih
theorem KV.length {kvs:List (κ×V)}{vs:List (κ×Value)}(r:KV kvs vs):kvs.length=vs.length:=Paired.length r
theorem U9 (kvs:List (κ×V)) (k:κ):(K8 kvs k).length<=kvs.length:=yJ _ _
end
theorem HP {P:Program}{w:World}{k:Key}{u:Value}(r:RelV (kV k) u):(AH P w).is k u=true:=by
 cases k with
 | inl i=>obtain⟨t,e⟩:=(show ∃t,u=b5W i t from r);subst e;exact U4 P w i t
 | inr x=>obtain⟨t,e⟩:=(show ∃t,u=b8J x t from r);subst e;exact M0 P w x t
theorem QK {P:Program}{w:World}:∀{ks:List Key}{us:List Value},Vals (ks.map kV) us->ItemsAre (AH P w) ks us
 | [],_,r=>by rw[a7J] at r;cases r;exact .nil
 | k::ks,_,r=>by
   rw[zI] at r
   cases r with
   | cons h t=>exact .cons (HP h) (QK t)
abbrev KT (H:Hp):List (List Key×V)->List (List Key×Addr×Value)->Prop:=Paired fun p q=>p.1=q.1/\H q.2.1=some (.tup (p.1.map kV))/\RelV p.2 q.2.2
theorem KT.val {H:Hp}{kvs:List (List Key×V)}{xs:List (List Key×Addr×Value)}(r:KT H kvs xs) (k:List Key):RelO (EX kvs k) ((atKey xs k).map (·.2)):=by
 induction r with
 | nil=>exact a6J
 | @cons p q ps qs h t ih=>
   obtain⟨h1,_,h2⟩:=h
   by_cases e:p.1=k
   · have e':q.1=k:=h1.symm.trans e
     have b:atKey (q::qs) k=some q.2:=by simp[atKey,a7V,e']
     rw[K9 e,b];exact h2
   · have e':¬q.1=k:=fun z=>e (h1.trans z)
     have b:atKey (q::qs) k=atKey qs k:=by simp[atKey,a7V,e']
     rw[HN e,b];exact ih
theorem KT.repl {H:Hp}{kvs:List (List Key×V)}{xs:List (List Key×Addr×Value)}(r:KT H kvs xs) (k:List Key) {y:V}{u:Value}(ry:RelV y u) :
   KT H (kvs.map fun kv=>if kv.1=k then (kv.1,y) else kv) (xs.map (putAt k u)):=by
 induction r with
 | nil=>exact .nil
 | @cons p q ps qs h t ih=>
   rw[zI,zI]
   refine .cons ?_ ih
   obtain⟨h1,h2,h3⟩:=h
   unfold putAt
   by_cases e:p.1=k
   · rw[if_pos e,if_pos (h1.symm.trans e)];exact⟨h1,h2,ry⟩
   · rw[if_neg e,if_neg (fun z=>e (h1.trans z))];exact⟨h1,h2,h3⟩
theorem KT.put {H:Hp}{kvs:List (List Key×V)}{xs:List (List Key×Addr×Value)}(r:KT H kvs xs) (k:List Key) {b:Addr}{y:V}{u:Value}(hb:H b=some (.tup (k.map kV))) (ry:RelV y u) :
   KT H (EH kvs k y) (storedH xs k b u):=by
 have e:(kvs.any fun kv=>decide (kv.1=k))=(atKey xs k).isSome:=by
   rw[U8,(r.val k).isSome_eq,b8X]
 unfold EH storedH
 rw[e]
 by_cases q:(atKey xs k).isSome=true
 · rw[if_pos q,if_pos q];exact r.repl k ry
 · rw[if_neg q,if_neg q];exact Paired.snoc r ⟨rfl,hb,ry⟩
theorem KT.keeps {H H':Hp}{kvs:List (List Key×V)}{xs:List (List Key×Addr×Value)}(r:KT H kvs xs) (ht:∀b ys,H b=some (.tup ys)->H' b=some (.tup ys)):KT H' kvs xs:=
 Paired.mapP r fun _ _ z=>⟨z.1,ht _ _ z.2.1,z.2.2⟩
section
variable {P:Program}{w:World}{H:Hp}{h:Heap}{a:Addr}
theorem nY {u:HO}(ok:HOk P w H h) (e:Rd H a u):ObjOk P w H h a u:=e.ok ok
theorem GV {kvs:List (Key×V)}(ok:HOk P w H h) (e:Rd H a (.dK kvs)):kvs.length<=sizeLine/\(a==sysModules)=false/\∃vs,KV kvs vs/\h.DictOf (AH P w) a vs:=
 show ObjOk P w H h a (.dK kvs) from nY ok e
theorem UA {kvs:List (Key×V)}(ok:HOk P w H h) (e:H a=some (.dK kvs)):kvs.length<=sizeLine/\(a==sysModules)=false/\∃vs,KV kvs vs/\h.DictOf (AH P w) a vs:=GV ok (.inl e)
theorem NQ {ks:List Key}(ok:HOk P w H h) (e:H a=some (.tup (ks.map kV))):(tupleKind (AH P w)).is h ks a:=by
 obtain⟨_,its,r,o,h1,h2,n,h3⟩:=(show ObjOk P w H h a (.tup (ks.map kV)) from ok a _ e)
 exact⟨o,its.toArray,n,h1,h2,h3,by simpa using QK r⟩
theorem QM {kvs:List (List Key×V)}(ok:HOk P w H h) (e:Rd H a (.dT kvs)):kvs.length<=sizeLine/\(a==sysModules)=false /\
   ∃xs,KT H kvs xs/\h.DictOfH (tupleKind (AH P w)) a xs:=by
 obtain⟨z,y,xs,r,o,es,ep,h1,h2,h3,h4,h5⟩:=(show ObjOk P w H h a (.dT kvs) from nY ok e)
 refine⟨z,y,xs,r,o,es,ep,h1,h2,h3,h4,fun x hx=>?_,h5⟩
 have all:∀{l:List (List Key×V)}{m:List (List Key×Addr×Value)},KT H l m->∀x∈m,(tupleKind (AH P w)).is h x.1 x.2.1:=by
   intro l m q
   induction q with
   | nil=>intro x hx;exact nomatch hx
   | @cons p q ps qs hq t ih=>
     intro x hx
     rcases yX.mp hx with e | hx
     · subst e
       exact NQ ok (by rw[← hq.1];exact hq.2.1)
     · exact ih x hx
 exact all r x hx
theorem tP {kvs:List (List Key×V)}(ok:HOk P w H h) (e:H a=some (.dT kvs)):kvs.length<=sizeLine/\(a==sysModules)=false /\
   ∃xs,KT H kvs xs/\h.DictOfH (tupleKind (AH P w)) a xs:=QM ok (.inl e)
end
def WZ (H:Hp) (a:Addr) (y:V) (r:Option V):Prop:=
 (∃kvs k,Rd H a (.dK kvs)/\y=kV k/\r=EX kvs k)∨∃kvs k b,Rd H a (.dT kvs)/\y = .ref b/\H b=some (.tup (k.map kV))/\r=EX kvs k
def tQ (H:Hp) (a:Addr) (y v:V) (H':Hp):Prop:=
 (∃kvs k,H a=some (.dK kvs)/\y=kV k/\kvs.length < sizeLine/\H'=upd H a (.dK (EH kvs k v))) ∨
 ∃kvs k b,H a=some (.dT kvs)/\y = .ref b/\H b=some (.tup (k.map kV))/\kvs.length < sizeLine/\H'=upd H a (.dT (EH kvs k v))
section
variable {X:Cx}{pins:List (Addr×Obj)}{σ:St}{H:Hp}{s:Shared}{a:Addr}{y v:V}{u r:Value}{o:Option V}{A:Around}{E:Value->Shared->Prop}
theorem Inv.big (I:Inv X pins σ H s):sysModules < s.heap.objs.size:=by
 have h:mainGlobals < s.heap.objs.size:=(I.mod.glob.keeps I.bk).lt
 exact xQ (by decide) h
theorem aN {Q:Value->Shared->Prop}(hu:A.units+1 < cLine) (I:Inv X pins σ H s) (g:WZ H a y (some v)) (ry:RelV y u) (h:∀w' s',Inv X pins σ H s'->RelV v w'->Q w' s') :
   wpAny (model X.prog X.w) A (getItem (.ref a) u) Q E s:=by
 rcases g with ⟨kvs,k,e,ey,l⟩ | ⟨kvs,k,b,e,ey,eb,l⟩
 · subst ey
   obtain⟨z,hd,vs,rel,dd⟩:=GV I.hok e
   obtain⟨w',hw,rw'⟩:=RelO.some_of (v:=v) (o:=valueAt vs k) (by rw[l];exact rel.val k)
   exact wpAny_getItem_of (HP ry) dd.mapOf hw (h w' _ (I.tok _) rw')
 · subst ey
   cases (show u=a0X b from ry)
   obtain⟨z,hd,xs,rel,dd⟩:=QM I.hok e
   obtain⟨w',hw,rw'⟩:=RelO.some_of (v:=v) (o:=(atKey xs k).map (·.2)) (by rw[l];exact rel.val k)
   obtain⟨p,hp,hp2⟩:=Option.map_eq_some_iff.mp hw
   refine wpAny_getItem_heap (tupleKind_room_in1 hu) (NQ I.hok eb) dd hp ?_
   rw[hp2]
   exact h w' _ (I.tok _) rw'
theorem vG {Q:Value->Shared->Prop}(hu:A.units+1 < cLine) (I:Inv X pins σ H s) (g:WZ H a y o) (ry:RelV y u) (h:∀s',Inv X pins σ H s'->Q (.bool o.isSome) s') :
   wpAny (model X.prog X.w) A (compareOp .In u (.ref a)) Q E s:=by
 rcases g with ⟨kvs,k,e,ey,l⟩ | ⟨kvs,k,b,e,ey,eb,l⟩
 · subst ey
   obtain⟨z,hd,vs,rel,dd⟩:=GV I.hok e
   refine wpAny_in_of (HP ry) hd dd.mapOf ?_
   rw[← (rel.val k).isSome_eq,← l]
   exact h _ (I.tok _)
 · subst ey
   cases (show u=a0X b from ry)
   obtain⟨z,hd,xs,rel,dd⟩:=QM I.hok e
   refine wpAny_in_heap (tupleKind_room_in1 hu) (NQ I.hok eb) hd dd ?_
   have q:=(rel.val k).isSome_eq
   rw[b8X] at q
   rw[← q,← l]
   exact h _ (I.tok _)
theorem IU {h':Heap}{t':Nat}{ob:HO}(I:Inv X pins σ H s) (mu:Mut (H a)) (hs:Heap.SameBut a s.heap h') (he:∃q,h'.get? a=some q) (new:ObjOk X.prog X.w (upd H a ob) h' a ob) :
   Inv X pins σ (upd H a ob) { s with heap:=h',toks:=t' }:=
 I.write (x:=a) (e:=a) mu (.inl rfl) (fun b q hb z=>(hs.2 b hb).trans z) he new
theorem L9 {P:Program}{w:World}{H':Hp}{h':Heap}{kvs:List (Key×V)}{vs:List (Key×Value)}(z:kvs.length<=sizeLine) (hd:(a==sysModules)=false) (rel:KV kvs vs) (dd:h'.DictOf (AH P w) a vs) :
   ObjOk P w H' h' a (.dK kvs):=⟨z,hd,vs,rel,dd⟩
theorem aO {H':Hp}{Q:Unit->Shared->Prop}(hu:A.units+1 < cLine) (I:Inv X pins σ H s) (g:tQ H a y v H') (ry:RelV y u) (rv:RelV v r) (h:∀s',Inv X pins σ H' s'->Q () s') :
   wpAny (model X.prog X.w) A (setItem (.ref a) u r) Q E s:=by
 rcases g with ⟨kvs,k,e,ey,l,eH⟩ | ⟨kvs,k,b,e,ey,eb,l,eH⟩
 · subst ey eH
   obtain⟨z,hd,vs,rel,dd⟩:=UA I.hok e
   have hz:vs.length<=sizeLine:=by rw[← rel.length];exact z
   have hl:(EH kvs k v).length<=sizeLine:=by have:=F0 kvs k v;omega
   refine wpAny_setItem_pairs (hsz:=hz) (HP ry) dd fun h' dd' hs=>h _ ?_
   have he:∃q,h'.get? a=some q:=let ⟨q,_,_,hq,_⟩:=dd';⟨q,hq⟩
   exact IU I (by rw[e];exact a6J) hs he (L9 hl hd (rel.put k rv) dd')
 · subst ey eH
   cases (show u=a0X b from ry)
   obtain⟨z,hd,xs,rel,dd⟩:=tP I.hok e
   have hz:xs.length<=sizeLine:=by rw[← Paired.length rel];exact z
   have hl:(EH kvs k v).length<=sizeLine:=by have:=F0 kvs k v;omega
   refine wpAny_setItem_heap (hsz:=hz) (tupleKind_room_in1 hu) (NQ I.hok eb) dd fun h' dd' hs=>h _ ?_
   obtain⟨q,es,ep,hq,h2,h3,h4,_,h5⟩:=dd'
   refine IU I (by rw[e];exact a6J) hs ⟨q,hq⟩ ⟨hl,hd,_,(rel.put k eb rv).keeps fun c ys ec=>?_,q,es,ep,hq,h2,h3,h4,h5⟩
   rw[AF (sS ec e (fun z=>nomatch z))]
   exact ec
end
section
variable {X:Cx}{pins:List (Addr×Obj)}{σ:St}{H:Hp}{s:Shared}{a:Addr}{kvs:List (Key×V)}{k:Key}{u:Value}{A:Around}{E:Value->Shared->Prop}
theorem aP {Q:Unit->Shared->Prop}(I:Inv X pins σ H s) (e:H a=some (.dK kvs)) (ry:RelV (kV k) u) (l:(EX kvs k).isSome=true) (h:∀s',Inv X pins σ (upd H a (.dK (K8 kvs k))) s'->Q () s') :
   wpAny (model X.prog X.w) A (delItem (.ref a) u) Q E s:=by
 obtain⟨z,hd,vs,rel,dd⟩:=UA I.hok e
 refine wpAny_delItem_slot dd.typeIs (by decide) PySem.F.slot_dict_delitem
   (call_meetsIn PySem.F.slot_dict_delitem dd.typeIs PySem.F.entry_dict_delitem (PySem.F.args_dict_delitem_2 _ _) (meets_dict_delitem_pairs (AH X.prog X.w) a (HP ry)) ⟨vs,dd,by rw[← rel.length];exact z,by rw[← (rel.val k).isSome_eq];exact l,fun h' dd' hs=>h _ ?_⟩)
 have he:∃q,h'.get? a=some q:=let ⟨q,_,_,hq,_⟩:=dd';⟨q,hq⟩
 exact IU I (by rw[e];exact a6J) hs he (L9 (zN (U9 kvs k) z) hd (rel.drop k) dd')
theorem tR {v:V}{more:List Value}{Q:Value->Shared->Prop}(I:Inv X pins σ H s) (e:H a=some (.dK kvs)) (ry:RelV (kV k) u) (l:EX kvs k=some v) (hm:more=[]∨∃x,more=[x])
   (h:∀w' s',Inv X pins σ (upd H a (.dK (K8 kvs k))) s'->RelV v w'->Q w' s'):wpAny (model X.prog X.w) A (call (.builtin "dict.pop") (.ref a::u::more)) Q E s:=by
 obtain⟨z,hd,vs,rel,dd⟩:=UA I.hok e
 obtain⟨w',hw,rw'⟩:=RelO.some_of (v:=v) (o:=valueAt vs k) (by rw[← l];exact rel.val k)
 have hp:(keyPart u).isSome=true:=by
   cases k with
   | inl i=>obtain⟨t,q⟩:=(show ∃t,u=b5W i t from ry);subst q;rfl
   | inr x=>obtain⟨t,q⟩:=(show ∃t,u=b8J x t from ry);subst q;rfl
 have ha:argsOk "dict.pop" ⟨.ref a::u::more,[]⟩:=by
   rcases hm with q | ⟨x,q⟩
   · subst q;exact PySem.F.args_dict_pop_2 _ _
   · subst q;exact PySem.F.args_dict_pop_3 _ _ _
 refine call_meetsIn PySem.F.slot_dict_pop dd.typeIs PySem.F.entry_dict_pop ha (meets_dict_pop_there (AH X.prog X.w) a (HP ry) more hm hp)
   ⟨vs,w',dd,by rw[← rel.length];exact z,hw,fun h' dd' hs=>h w' _ ?_ rw'⟩
 have he:∃q,h'.get? a=some q:=let ⟨q,_,_,hq,_⟩:=dd';⟨q,hq⟩
 exact IU I (by rw[e];exact a6J) hs he (L9 (zN (U9 kvs k) z) hd (rel.drop k) dd')
end
def tS (i:Expr):Prop:=∀ov iv,subscripted i false ov iv=operate [ov,iv] (getItem ov iv)
theorem kF {prog:Program}{w:World}{A:Around}{E:Value->Shared->Prop}{s:Shared}{env:Env}{value slice:Expr}{pos:Pos}{T id:String}{Q:Value->Shared->Prop}
   (hl:typeLookup (.type T) "__getitem__"=pure (some (.builtin id))) (hs:tS slice)
   (h:wpAny (model prog w) A (eval value env) (fun o s₁=>wpAny (model prog w) A (eval slice env) (fun i s₂=>s₂.TypeIs o T/\wpAny (model prog w) A (getItem o i) Q E s₂) E s₁) E s) :
   wpAny (model prog w) A (eval (.Subscript value slice pos) env) Q E s:=by
 refine Subscript_ (wpAny_mono h (fun o s₁ h₁=>wpAny_mono h₁ (fun i s₂ h₂=>?_) fun _ _ x=>x) fun _ _ x=>x)
 obtain⟨hT,h₂⟩:=h₂
 unfold subscriptTail
 refine zZ ?_
 rw[getitemInPython_of_ne hT.not_modules]
 refine zZ (wpAny_specialOf hT hl ?_)
 have fin:wpAny (model prog w) A (subscripted slice false o i) (fun r s₃=>wpAny (model prog w) A (letTemporaryGo value o r >>= fun _=>pure r) Q E s₃) E s₂:=by
   rw[hs o i]
   exact wpAny_operating (wpAny_mono h₂ (fun r s₃ h₃=>zZ (wpAny_letTemporaryGo (zY h₃))) fun _ _ x=>x)
 first
   | exact zY (zZ fin)
   | exact zZ (zY (zZ fin))
   | exact zZ fin
theorem UB {X:Cx}{pins:List (Addr×Obj)}{σ:St}{H:Hp}{s:Shared}{a:Addr}{y:V}{o:Option V}(I:Inv X pins σ H s) (g:WZ H a y o):s.TypeIs (.ref a) "dict" := by
 rcases g with ⟨kvs,k,e,_,_⟩ | ⟨kvs,k,b,e,_,_,_⟩
 · obtain⟨_,_,vs,_,dd⟩:=GV I.hok e
   exact dd.typeIs
 · obtain⟨_,_,xs,_,dd⟩:=QM I.hok e
   exact dd.typeIs
def nZ (td ty:TE):TE:=fun σ H Q=>td σ H fun x H1=>ty σ H1 fun y H2=>∃a v,x = .ref a/\WZ H2 a y (some v)/\Q v H2
def tT (ty td:TE):TE:=fun σ H Q=>ty σ H fun y H1=>td σ H1 fun x H2=>∃a o,x = .ref a/\WZ H2 a y o/\Q (.bl o.isSome) H2
def o0 (td ty tv:TE):TS:=fun D σ H=>tv σ H fun v H1=>td σ H1 fun x H2=>ty σ H2 fun y H3=>∃a H4,x = .ref a/\tQ H3 a y v H4/\D.nx σ H4
def o8 (td ty:TE):TS:=fun D σ H=>td σ H fun x H1=>ty σ H1 fun y H2=>∃a kvs k,x = .ref a/\H2 a=some (.dK kvs)/\y=kV k/\(EX kvs k).isSome=true/\D.nx σ (upd H2 a (.dK (K8 kvs k)))
section
variable {X:Cx}{o i e value:Expr}{pos pos' tpos:Pos}{td ty tv:TE}
theorem F3 (hu:X.A.units+1 < cLine) (ho:PE X o td) (hi:PE X i ty) (hs:tS i):PE X (.Subscript o i pos) (nZ td ty):=by
 intro pins s σ H Q I h
 refine kF PySem.F.slot_dict_getitem.lookup hs (thn (ho pins s σ H _ I h) fun u s1 ⟨x,H1,I1,rx,q1⟩=>thn (hi pins s1 σ H1 _ I1 q1) fun iv s2 ⟨y,H2,I2,ry,a,v,ex,g,q2⟩=>?_)
 subst ex
 obtain rfl:u=a0X a:=rx
 exact⟨UB I2 g,aN hu I2 g ry fun w' s3 I3 rw'=>⟨v,H2,I3,rw',q2⟩⟩
theorem dP (hu:X.A.units+1 < cLine) (hi:PE X i ty) (ho:PE X o td):PC X .In i o (tT ty td):=by
 intro pins s σ H Q I h
 refine thn (hi pins s σ H _ I h) fun iv s1 ⟨y,H1,I1,ry,q1⟩=>thn (ho pins s1 σ H1 _ I1 q1) fun u s2 ⟨x,H2,I2,rx,a,ov,ex,g,q2⟩=>?_
 subst ex
 obtain rfl:u=a0X a:=rx
 exact vG hu I2 g ry fun s3 I3=>⟨.bl ov.isSome,H2,I3,rfl,q2⟩
theorem S4 (hu:X.A.units+1 < cLine) (ho:PE X o td) (hi:PE X i ty) (hv:PE X value tv) (hs:swapsWith value (some (.Subscript o i pos')) pos.line X.env=pure false) :
   PS X (.Assign [.Subscript o i pos'] value pos) (o0 td ty tv):=by
 intro pins s σ H D I h
 refine wpAny_Assign_Subscript (thn (hv pins s σ H _ I h) fun r s1 ⟨v,H1,I1,rv,q1⟩=>thn (ho pins s1 σ H1 _ I1 q1) fun u s2 ⟨x,H2,I2,rx,q2⟩=>thn (hi pins s2 σ H2 _ I2 q2) fun iv s3 ⟨y,H3,I3,ry,a,H4,ex,g,q3⟩=>?_) hs
 subst ex
 obtain rfl:u=a0X a:=rx
 exact aO hu I3 g ry rv fun s4 I4=>⟨σ,H4,I4,q3⟩
theorem kG (ho:PE X o td) (hi:PE X i ty):PS X (.Delete [.Subscript o i tpos] pos) (o8 td ty):=by
 intro pins s σ H D I h
 refine wpAny_Delete (wpAny_deleteEach_cons (wpAny_delete_Subscript (thn (ho pins s σ H _ I h) fun u s1 ⟨x,H1,I1,rx,q1⟩=>thn (hi pins s1 σ H1 _ I1 q1) fun iv s2 ⟨y,H2,I2,ry,a,kvs,k,ex,e,ey,l,q2⟩=>?_)))
 subst ex ey
 obtain rfl:u=a0X a:=rx
 exact aP I2 e ry l fun s3 I3=>wpAny_deleteEach_nil ⟨σ,_,I3,q2⟩
end
theorem NR {P:Program}{w:World}{H:Hp}(h:Heap) (hb:sysModules < h.objs.size):ObjOk P w H (h.push { cls:=.type "dict", data:=.dict #[] }) h.objs.size (.dK []):=
 ⟨xT _,beq_eq_false_iff_ne.mpr (a8J (zC hb)),[],.nil,Heap.DictOf.new h⟩
def dQ:TE:=fun _ H Q=>∀p,H p=none->Q (.ref p) (upd H p (.dK []))
section
variable {X:Cx}{pos:Pos}
theorem dR:PE X (.Dict [] [] pos) dQ:=fun pins s σ H Q I h=>
 wpAny_Dict_empty ⟨.ref s.heap.objs.size,_,I.laid (a:=s.heap.objs.size) (o:=.dK []) (t':=s.toks) (fun _ _ q=>zW _ q) (zR _) (NR s.heap I.big),rfl,h _ (I.hok.fresh (zR _))⟩
end
def S5:List (TE×TE)->St->Hp->(List (V×V)->Hp->Prop)->Prop
 | [],_,H,Q=>Q [] H
 | (tk,tv)::r,σ,H,Q=>tk σ H fun x H1=>tv σ H1 fun y H2=>S5 r σ H2 fun ps H3=>Q ((x,y)::ps) H3
abbrev VV:List (V×V)->List (Value×Value)->Prop:=Paired fun p q=>RelV p.1 q.1/\RelV p.2 q.2
def PPs (X:Cx) (pos:Pos) (keys:List (Option Expr)) (values:List Expr) (trs:List (TE×TE)):Prop:=
 ∀(pins:List (Addr×Obj)) (s:Shared) (σ:St) (H:Hp) (Q:List (V×V)->Hp->Prop),Inv X pins σ H s->S5 trs σ H Q ->
   wpAny (model X.prog X.w) X.A (evalPairs (pairTrees keys values X.env pos)) (fun vs s'=>∃ps H',Inv X pins σ H' s'/\VV ps vs/\Q ps H') X.xe s
theorem YS {X:Cx}{pos:Pos}:PPs X pos [] [] []:=fun pins s σ H Q I h=>pairTrees_nil_walk ⟨[],H,I,.nil,h⟩
theorem HQ {X:Cx}{pos:Pos}{k v:Expr}{ks:List (Option Expr)}{vs:List Expr}{tk tv:TE}{trs:List (TE×TE)}(hk:PE X k tk) (hv:PE X v tv) (hr:PPs X pos ks vs trs) :
   PPs X pos (some k::ks) (v::vs) ((tk,tv)::trs):=fun pins s σ H Q I h=>
 pairTrees_cons_walk (thn (hk pins s σ H _ I h) fun u s1 ⟨x,H1,I1,rx,q1⟩=>thn (hv pins s1 σ H1 _ I1 q1) fun w2 s2 ⟨y,H2,I2,ry,q2⟩=>
   thn (hr pins s2 σ H2 _ I2 q2) fun ws s3 ⟨ps,H3,I3,rel,q3⟩=>⟨(x,y)::ps,H3,I3,.cons ⟨rx,ry⟩ rel,q3⟩)
def EI (kvs more:List (Key×V)):List (Key×V):=more.foldl (fun acc kv=>EH acc kv.1 kv.2) kvs
theorem KV.merge:∀{more:List (Key×V)}{rs:List (Key×Value)}{kvs:List (Key×V)}{vs:List (Key×Value)},KV more rs->KV kvs vs->KV (EI kvs more) (merged vs rs):=by
 intro more rs kvs vs r
 unfold KV at r
 induction r generalizing kvs vs with
 | nil=>intro q;exact q
 | @cons p q ps qs h t ih=>
   intro r0
   have e:KV (EH kvs p.1 p.2) (stored vs q.1 q.2):=by
     have:=r0.put p.1 h.2
     rw[← h.1];exact this
   exact ih e
theorem FG:∀(more kvs:List (Key×V)),(EI kvs more).length<=kvs.length+more.length
 | [],kvs=>by show kvs.length<=kvs.length+0;omega
 | p::r,kvs=>by
   have h1:=FG r (EH kvs p.1 p.2)
   have h2:=F0 kvs p.1 p.2
   show(EI (EH kvs p.1 p.2) r).length<=_
   rw[yR];omega
theorem NS {P:Program}{w:World}:∀{kvs:List (Key×V)}{ws:List (Value×Value)},VV (kvs.map fun kv=>(kV kv.1,kv.2)) ws->∃rs,Carries (AH P w) ws rs/\KV kvs rs
 | [],_,r=>by rw[a7J] at r;cases r;exact⟨[],a6J,.nil⟩
 | p::kvs,_,r=>by
   rw[zI] at r
   cases r with
   | @cons a b as bs h t=>
     obtain⟨rs,c,q⟩:=NS (P:=P) (w:=w) t
     obtain⟨b1,b2⟩:=b
     exact⟨(p.1,b2)::rs,⟨HP h.1,rfl,c⟩,.cons ⟨rfl,h.2⟩ q⟩
def o9 (trs:List (TE×TE)):TE:=fun σ H Q=>∀p,H p=none->S5 trs σ (upd H p (.dK [])) fun ps H2=>H2 p=some (.dK [])/\∃kvs:List (Key×V),ps=kvs.map (fun kv=>(kV kv.1,kv.2))/\kvs.length<=15/\Q (.ref p) (upd H2 p (.dK (EI [] kvs)))
theorem YT {X:Cx}{pos:Pos}{keys:List (Option Expr)}{values:List Expr}{trs:List (TE×TE)}(h:PPs X pos keys values trs) (hall:keys.all (·.isSome)=true) (hl:keys.length=values.length) (h0:keys≠[])
   (h15:keys.length<=15):PE X (.Dict keys values pos) (o9 trs):=by
 intro pins s σ H Q I q
 have hn:=I.hok.fresh (zR s.heap.objs.size)
 have I1:=I.laid (a:=s.heap.objs.size) (o:=.dK []) (h':=s.heap.push { cls:=.type "dict", data:=.dict #[] }) (t':=s.toks) (fun _ _ q=>zW _ q) (zR _) (NR s.heap I.big)
 refine wpAny_Dict_walk (knd:=AH X.prog X.w) hall hl h0 h15 (thn (h pins _ σ _ _ I1 (q _ hn)) fun ws s2 ⟨ps,H2,I2,rel,e,kvs,ep,lk,q2⟩=>?_)
 subst ep
 obtain⟨rs,c,rk⟩:=NS (P:=X.prog) (w:=X.w) rel
 obtain⟨z,hd,vs0,r0,dd⟩:=UA I2.hok e
 cases r0
 refine⟨rs,c,dd,fun h' dd' hs=>⟨.ref s.heap.objs.size,_,?_,rfl,q2⟩⟩
 have hz:(EI [] kvs).length<=sizeLine:=by
   have h1:=FG kvs []
   rw[b0K] at h1
   rw[sizeLine_eq];omega
 have he:∃q,h'.get? s.heap.objs.size=some q:=let ⟨q,_,_,hq,_⟩:=dd';⟨q,hq⟩
 exact IU I2 (by rw[e];exact a6J) hs he (L9 hz hd (rk.merge .nil) dd')
structure M1 (X:Cx) (o:Expr) (m:Str) (apos:Pos) (e:Expr) (cpos:Pos):Prop where
 base:attributeBase o m X.env (eval o X.env)=eval o X.env
 few:((backTo cpos (starEach [e] X.env)).all (fun x=>!x.1)&&(backToKw cpos (keywordEach [] X.env)).all (fun x=>x.1.isSome)
   && decide (([e]:List Expr).length+([]:List Keyword).length+(if ([]:List Keyword).isEmpty then 0 else 1) < 30))=true
 line:(apos.endLine==cpos.line)=true
 trees:backTo cpos (starEach [e] X.env)=[(false,eval e X.env)]
structure M2 (X:Cx) (o:Expr) (m:Str) (apos:Pos) (e f:Expr) (cpos:Pos):Prop where
 base:attributeBase o m X.env (eval o X.env)=eval o X.env
 few:((backTo cpos (starEach [e,f] X.env)).all (fun x=>!x.1)&&(backToKw cpos (keywordEach [] X.env)).all (fun x=>x.1.isSome)
   && decide (([e,f]:List Expr).length+([]:List Keyword).length+(if ([]:List Keyword).isEmpty then 0 else 1) < 30))=true
 line:(apos.endLine==cpos.line)=true
 trees:backTo cpos (starEach [e,f] X.env)=[(false,eval e X.env),(false,eval f X.env)]
def IsD (H:Hp) (a:Addr):Prop:=(∃kvs,Rd H a (.dK kvs))∨∃kvs,Rd H a (.dT kvs)
theorem dS {X:Cx}{pins:List (Addr×Obj)}{σ:St}{H:Hp}{s:Shared}{a:Addr}(I:Inv X pins σ H s) (d:IsD H a) :
   s.TypeIs (.ref a) "dict" /\ (∀b,a0X a = .ref b->∃ob,s.heap.get? b=some ob/\ob.dict=none)/\(a==sysModules)=false:=by
 rcases d with ⟨kvs,e⟩ | ⟨kvs,e⟩
 · obtain⟨_,hd,vs,_,dd⟩:=GV I.hok e
   refine⟨dd.typeIs,fun b q=>?_,hd⟩
   cases q
   obtain⟨ob,_,_,h1,h2,_⟩:=dd
   exact⟨ob,h1,h2.2.1⟩
 · obtain⟨_,hd,xs,_,dd⟩:=QM I.hok e
   refine⟨dd.typeIs,fun b q=>?_,hd⟩
   cases q
   obtain⟨ob,_,_,h1,h2,_⟩:=dd
   exact⟨ob,h1,h2.2.1⟩
section
variable {X:Cx}{pins:List (Addr×Obj)}{σ:St}{H:Hp}{s:Shared}{a:Addr}{y d:V}{u r:Value}{o:Option V}{A:Around}{E:Value->Shared->Prop}
theorem qF {Q:Value->Shared->Prop}(hu:A.units+1 < cLine) (I:Inv X pins σ H s) (g:WZ H a y o) (ry:RelV y u) (rd:RelV d r) (h:∀w' s',Inv X pins σ H s'->RelV (o.getD d) w'->Q w' s') :
   wpAny (model X.prog X.w) A (call (.builtin "dict.get") [.ref a,u,r]) Q E s:=by
 rcases g with ⟨kvs,k,e,ey,l⟩ | ⟨kvs,k,b,e,ey,eb,l⟩
 · subst ey
   obtain⟨z,hd,vs,rel,dd⟩:=GV I.hok e
   refine call_meetsIn a9J dd.typeIs b9K (PySem.F.args_dict_get_3 _ _ _) (meets_dict_get_default (AH X.prog X.w) a (HP ry) hd r) ⟨_,dd.mapOf,h _ _ (I.tok _) ?_⟩
   rw[l]
   exact(rel.val k).getD rd
 · subst ey
   cases (show u=a0X b from ry)
   obtain⟨z,hd,xs,rel,dd⟩:=QM I.hok e
   refine call_meetsIn a9J dd.typeIs b9K (PySem.F.args_dict_get_3 _ _ _) (meetsH_dict_get_default (tupleKind (AH X.prog X.w)) a b hd r) ⟨tupleKind_room_in1 hu,k,xs,NQ I.hok eb,dd,h _ _ (I.tok _) ?_⟩
   rw[l]
   exact(rel.val k).getD rd
end
def X0 (td ty tx:TE):TE:=fun σ H Q=>td σ H fun x H1=>∃a,x = .ref a/\IsD H1 a/\ty σ H1 fun y H2=>tx σ H2 fun z H3=>∃o,WZ H3 a y o/\Q (o.getD z) H3
def dU (td ty:TE):TE:=fun σ H Q=>td σ H fun x H1=>∃a,x = .ref a/\IsD H1 a/\ty σ H1 fun y H2=>∃kvs k v,H2 a=some (.dK kvs)/\y=kV k/\EX kvs k=some v/\Q v (upd H2 a (.dK (K8 kvs k)))
section
variable {X:Cx}{o e f:Expr}{apos cpos:Pos}{td ty tx:TE}
theorem NT (hu:X.A.units+1 < cLine) (ho:PE X o td) (he:PE X e ty) (hf:PE X f tx) (m:M2 X o "get" apos e f cpos):PE X (.Call (.Attribute o "get" apos) [e,f] [] cpos) (X0 td ty tx):=by
 intro pins s σ H Q I h
 refine wpAny_Call_method m.base m.few m.line b8K a9J PySem.F.type_dict_get (thn (ho pins s σ H _ I h) fun u s1 ⟨x,H1,I1,rx,a,ex,d,q1⟩=>?_)
 subst ex
 obtain rfl:u=a0X a:=rx
 obtain⟨t1,t2,_⟩:=dS I1 d
 refine⟨t1,t2,?_⟩
 rw[m.trees]
 refine b4Z rfl (b4V (xP (thn (he pins s1 σ H1 _ I1 q1) fun iv s2 ⟨y,H2,I2,ry,q2⟩=>
   xP (thn (hf pins s2 σ H2 _ I2 q2) fun fv s3 ⟨z,H3,I3,rz,ov,g,q3⟩=>b8V ?_))))
 exact qF hu I3 g ry rz fun w' s4 I4 rw'=>⟨_,H3,I4,rw',q3⟩
theorem UC (ho:PE X o td) (he:PE X e ty) (m:M1 X o "pop" apos e cpos):PE X (.Call (.Attribute o "pop" apos) [e] [] cpos) (dU td ty):=by
 intro pins s σ H Q I h
 refine wpAny_Call_method m.base m.few m.line b8K PySem.F.slot_dict_pop PySem.F.type_dict_pop (thn (ho pins s σ H _ I h) fun u s1 ⟨x,H1,I1,rx,a,ex,d,q1⟩=>?_)
 subst ex
 obtain rfl:u=a0X a:=rx
 obtain⟨t1,t2,_⟩:=dS I1 d
 refine⟨t1,t2,?_⟩
 rw[m.trees]
 refine b4Z rfl (b4V (xP (thn (he pins s1 σ H1 _ I1 q1) fun iv s2 ⟨y,H2,I2,ry,kvs,k,v,ea,ey,l,q2⟩=>b8V ?_)))
 subst ey
 exact tR I2 ea ry l (.inl rfl) fun w' s3 I3 rw'=>⟨v,_,I3,rw',q2⟩
end
end L2
namespace Att
open PySem PySem.W PySem.Calls PyProof.Rows
theorem MT {P:Params}{h:Heap}:∀(ns:List Int) (vs:List Value),WellAll P h vs (ns.map WData.int)->IntsAre vs ns:=by
 intro ns
 induction ns with
 | nil=>
   intro vs w
   rw[a7J] at w
   cases w
   exact .nil
 | cons n ns ih=>
   intro vs w
   rw[zI] at w
   cases w with
   | cons a b=>
     cases a
     exact .cons _ _ (ih _ b)
theorem script_of {l:OpenLaw}{n:Nat}(hn:l.most=some n) {P:Params}{h:Heap}{args:List WData}{vals:List Value}
   (hpre:l.row.toRowW.claim.pre args=true) (hwl:WellAll P h vals args) :
   ∃a vs ns,vals=[a0X a]/\args=[WData.list (ns.map WData.int)]/\h.get? a=some { cls:=.type "list", data:=.seq vs.toArray }/\IntsAre vs ns/\ns.length<=n:=by
 have hsh:WShape.hasAll [] args [.list .int]=true:=(pre_splitW hpre).1
 have hc:l.pre.holds [] { args:=args }=true:=(pre_splitW hpre).2
 obtain⟨d,r,rfl,h1,h2⟩:=hasAllW_cons hsh
 obtain rfl:=hasAllW_nil h2
 obtain⟨xs,rfl,h3⟩:=hasW_list h1
 obtain⟨ns,rfl⟩:=items_int h3
 have hlen:ns.length<=n:=by
   unfold OpenLaw.pre at hc
   have h4:(WTm.not (.lt (.lit (.int (n:Int))) (.len (.arg 0)))).holds [] { args:=[.list (ns.map .int)] }=true:=by
     have h4:=(holds_andW hc).1
     rw[hn] at h4
     exact h4
   have h5:=condW_of h4 (w_not (w_lt w_lit (w_len_list (w_arg rfl))))
   rw[zX] at h5
   refine Nat.le_of_not_lt fun q=>?_
   have q':(n:Int) < ((ns.length:Nat):Int):=by omega
   first
     | (rw[decide_eq_true q'] at h5;exact absurd h5 (by decide))
     | (simp at h5;omega)
 cases hwl with
 | cons w1 w2=>
   cases w2
   cases w1 with
   | list ho hall=>exact⟨_,_,ns,rfl,rfl,ho,MT ns _ hall,hlen⟩
theorem post_true (l:OpenLaw) (args:List WData):l.row.toRowW.claim.post args (.bool true) args=true:=
 postW_of (r:=l.row.toRowW) (X:=(true==true))
   (show WShape.has [] (.bool true) .bool=true by first | rfl | decide | simp[WShape.has,WShape.arms,WShape.armsAll])
   (show(WTm.eq .res (.lit (.bool true))).value [] { args:=args,res:=some (.bool true),after:=args }=some (.bool (true==true)) from w_eq_bool (w_res rfl) w_lit) rfl
end Att
namespace L2
open PySem PySem.Spec PyProof.Rows
theorem QN:∀{vs:List Value}{ns:List Int},IntsAre vs ns->Vals (ns.map V.int) vs
 | _,_,.nil=>.nil
 | _,_,.cons n t h=>.cons ⟨t,rfl⟩ (QN h)
def qG (H:Hp):Prop:=∀b,H b=none∨∃o xs,H b=some (.frz o (.lst xs))
theorem dW {P:Program}{w:World}{K:Frg}{mg mb:Str->Option Value}{CX:CXT}{k:Nat}{fa a:Addr}{fd:FuncData}{x:Str}{sp:Sp}{s₁:Shared}{vs:List Value}{ns:List Int}
   (KX:K.In s₁.heap) (hns:s₁.heap.Ns mainGlobals mg) (hb:s₁.heap.Ns builtinsNs mb) (hbb:∀x:Str,x ≠ "__name__" -> mb x=bootBuiltins x) (hlim:s₁.heap.NoLimit) (hg:s₁.gens=#[])
   (ha:s₁.heap.get? a=some { cls:=.type "list", data:=.seq vs.toArray }) (hi:IntsAre vs ns) (hl:ns.length<=sizeLine) (hr:Room k callerA)
   (F:∀base:Heap,K.In base->base.Ns mainGlobals mg->FnOk P w K mg base CX k fa fd [x] sp) (hbind:∀(s:Shared) (u:Value),BindsTo s fd ⟨[u],[]⟩ [(x,u)])
   (hsp:∀H:Hp,qG H->SqL K H a (ns.map V.int)->sp [.ref a] H (fun v _=>v = .bl true) fun _ _ _=>False)
   (hCX:∀H e s',CX [] H s₁ (fun _ _ _=>False) e s'->False) :
   codeAny (model P w) callerA (.call (.ref fa) ⟨[.ref a],[]⟩) (fun r s'=>r = .ok (.ret (.bool true))/\OldK s₁.heap s'.heap/\s'.os=s₁.os/\AllBare s'.gens) s₁:=by
 have rv:=QN hi
 have lenV:=hi.length
 have core:∀H:Hp,qG H->SqL K H a (ns.map V.int)->HOk P w H s₁.heap->(∀b,H b≠none->b=a)->(H a≠none->K.lookup a=none) ->
     codeAny (model P w) callerA (.call (.ref fa) ⟨[.ref a],[]⟩) (fun r s'=>r = .ok (.ret (.bool true))/\OldK s₁.heap s'.heap/\s'.os=s₁.os/\AllBare s'.gens) s₁:=by
   intro H hO hS hok hA hK
   have base_of:∀{b:Addr}{o:Obj},s₁.heap.get? b=some o->H b=none->(RS s₁.heap H).get? b=some o:=fun e n=>cU e n
   have noA:∀{b:Addr}{o:Obj}{es:Array DictEntry}{ep:Nat},s₁.heap.get? b=some o->o.data = .dict es ep->H b=none:=fun {b o es ep} e d=>by
     cases q:H b with
     | none=>rfl
     | some u=>
       have e':b=a:=hA b (by rw[q];simp)
       subst e'
       rw[ha] at e;cases e
       have d':Data.seq vs.toArray _=Data.dict es ep:=d
       cases d'
   have nsK:∀{b:Addr}{m:Str->Option Value},s₁.heap.Ns b m->(RS s₁.heap H).Ns b m:=fun {b m} ⟨o,es,ep,e,d,r⟩=>⟨o,es,ep,base_of e (noA e d),d,r⟩
   have hKb:K.In (RS s₁.heap H):=fun b o e=>base_of (KX b o e) (by
     cases q:H b with
     | none=>rfl
     | some u=>
       have e':b=a:=hA b (by rw[q];simp)
       subst e'
       rw[hK (by rw[q];simp)] at e;cases e)
   have hM:Mod K mg (RS s₁.heap H):=⟨hKb,nsK hns,⟨mb,nsK hb,hbb⟩,let ⟨mc,h1,h2⟩:=hlim;⟨mc,nsK h1,h2⟩⟩
   have e0:Env0 P w K mg (RS s₁.heap H) callerA [] s₁ H:=⟨rfl,hM,fun b o e=>jS e,Nat.le_of_eq (aB _ _),trivial,fun b hb=>absurd (show b∈([]:List Addr) from hb) (by simp),hok,.of_eq hg⟩
   refine xN ((F _ hKb (nsK hns)).run callerA [] s₁ H ⟨[.ref a],[]⟩ [.ref a] [.ref a] _ _ hr e0 (hbind s₁ (.ref a)) (.cons rfl .nil) (hsp H hO hS)) fun r s' h=>?_
   cases r with
   | error e=>exact(hCX H e s' h).elim
   | ok fl=>
     cases fl with
     | next=>exact a6Z h
     | brk=>exact a6Z h
     | cont=>exact a6Z h
     | ret u=>
       obtain⟨v,H',os,bare,un,hok',r',q⟩:=h
       have q':v = .bl true:=q
       subst q'
       obtain rfl:u=Value.bool true:=r'
       refine⟨rfl,OldK.of_keep fun b o e=>?_,os,bare⟩
       cases q:H b with
       | none=>exact un.keep b o e q (by intro z;exact absurd (show b∈([]:List Addr) from z) (by simp)) (by simp)
       | some u=>
         rcases hO b with z | ⟨ob,xs,z⟩
         · rw[q] at z;cases z
         · have z2:=un.frzs b ob _ z
           obtain⟨e1,_⟩:=hok b _ z
           obtain⟨e2,_⟩:=hok' b _ z2
           rw[e] at e1;cases e1
           exact e2
 cases hk:K.lookup a with
 | some o=>
   have e:=KX a o hk
   rw[ha] at e
   cases e
   refine core (fun _=>none) (fun _=>.inl rfl) (.inr ⟨_,vs.toArray,_,hk,rfl,rfl,rfl,by rw[zJ,lenV];exact hl,by simpa using rv⟩) (fun b u z=>by have z':(none:Option HO)=some u:=z;cases z') (fun b z=>absurd rfl z) fun z=>absurd rfl z
 | none=>
   refine core (fun b=>if b=a then some (.frz { cls:=.type "list", data:=.seq vs.toArray } (.lst (ns.map V.int))) else none) (fun b=>?_) (.inl (.inr ⟨{ cls:=.type "list", data:=.seq vs.toArray },if_pos rfl⟩)) (fun b u z=>?_) (fun b z=>?_) fun _=>hk
   · by_cases hb:b=a
     · exact .inr ⟨_,_,if_pos hb⟩
     · exact .inl (if_neg hb)
   · by_cases hb:b=a
     · have z':=(if_pos hb).symm.trans z
       cases z'
       subst hb
       exact⟨ha,by rw[zX];exact hl,vs,_,rv,ha⟩
     · have z':=(if_neg hb).symm.trans z
       cases z'
   · by_cases hb:b=a
     · exact hb
     · exact absurd (if_neg hb) z
def DF (s:Stmt):Arguments:=match s with
 | .FunctionDef _ a _ _ _ _ _ _ _ _=>a
 | _=>{ posonlyargs:=[],args:=[],vararg:=none,kwonlyargs:=[],kw_defaults:=[],kwarg:=none,defaults:=[] }
def BJ (s:Stmt):List Stmt:=match s with
 | .FunctionDef _ _ b _ _ _ _ _ _ _=>b
 | _=>[]
def AC (s:Stmt):Scope:=match s with
 | .FunctionDef _ _ _ _ _ _ sc _ _ _=>sc
 | _=>{ kind:=.function,names:=[],isGenerator:=false,isCoroutine:=false }
abbrev CX0:CXT:=fun _ _ _ _ _ _=>False
abbrev E0:XK:=fun _ _ _=>False
theorem tU {X:Cx}:WV CX0 X E0:=fun _ _ _ _ _ _ _ h=>h.elim
structure Fun (K:Frg) (x qual:Str) (st:Stmt) (f:Addr) (fd:FuncData):Prop where
 ex:∃(oc:Value) (od:Option Addr) (kV doc pm:Value) (an:Option Addr) (cdv ct:Value) (osl:Array (Option Value)),
   fd=a6Q x qual (DF st) (BJ st) (AC st) .none kV doc pm an cdv ct/\K.lookup f=some ⟨oc,od,.func fd,osl⟩/\b4Q K cdv qual=true
 kp:a3J K (.ref f)=true
section
variable {P:Program}{w:World}{K:Frg}{mg:Str->Option Value}{base:Heap}
theorem Fun.ok {x qual:Str}{st:Stmt}{f:Addr}{fd:FuncData}{N ps:List Str}{k:Nat}{sp:Sp}(F:Fun K x qual st f fd) (S:FnScope N ps (AC st)) (len:∀vs H Q E,sp vs H Q E->vs.length=ps.length)
   (hbody:∀(cdv:Value) (A:Around) (outer:List Env) (s:Shared) (H:Hp) (vs:List V) (Q:VK) (E:XK),Room k (A.deeper (envOfC qual (AC st) s.heap.objs.size f cdv))->sp vs H Q E ->
     ∃t,PSs (K7 CX0 P w K mg base N qual (AC st) f cdv A outer s H E).nox (BJ st) t/\t { nx:=fun _ H'=>Q .non H',rt:=Q } (EZ N vs) H):FnOk P w K mg base CX0 (k+1) f fd ps sp:=by
 obtain⟨oc,od,kV,doc,pm,an,cdv,ct,osl,rfl,lk,hcd⟩:=F.ex
 refine nU lk hcd S len fun A outer s H vs Q E hr hsp=>?_
 obtain⟨t,h,q⟩:=hbody cdv A outer s H vs Q E hr hsp
 exact⟨t,h.nox,q⟩
theorem Fun.binds {x qual:Str}{st:Stmt}{f:Addr}{fd:FuncData}{ps:List Str}(F:Fun K x qual st f fd)
   (h:∀(kV doc pm:Value) (an:Option Addr) (cdv ct:Value) (us:List Value),us.length=ps.length->bindArgs (a6Q x qual (DF st) (BJ st) (AC st) .none kV doc pm an cdv ct) ⟨us,[]⟩=pure (ps.zip us)):Binds K fd ps []:=by
 obtain⟨oc,od,kV,doc,pm,an,cdv,ct,osl,rfl,lk,hcd⟩:=F.ex
 exact .all (h kV doc pm an cdv ct)
theorem dX {x qual:Str}{st:Stmt}{f:Addr}{oc:Value}{od an:Option Addr}{osl:Array (Option Value)}{kV doc pm cdv ct:Value}(l:K.lookup f=some ⟨oc,od,.func (a6Q x qual (DF st) (BJ st) (AC st) .none kV doc pm an cdv ct),osl⟩)
   (c:b4Q K cdv qual=true) (k:a3J K (.ref f)=true):Fun K x qual st f (a6Q x qual (DF st) (BJ st) (AC st) .none kV doc pm an cdv ct):=⟨⟨oc,od,kV,doc,pm,an,cdv,ct,osl,rfl,l,c⟩,k⟩
end
section
variable {X:Cx}
theorem pv (i:Nat) {x:Str}{pos:Pos}(hN:X.N[i]?=some x:=by rfl) (hv:Vis X.env.scope x:=by first | exact Or.inl rfl | exact Or.inr (Or.inl rfl) | exact Or.inr (Or.inr rfl)) (hd:(x==("__debug__":Str))=false:=by decide)
   (hcd:(x==("__classdict__":Str))=false:=by decide):PE X (.Name x pos) (aD i):=cV hN hv hd hcd
end
theorem kH {A B:Prop}(h:B):if false=true then A else B:=by
 rw[if_neg nft]
 exact h
theorem kI {A B:Prop}(h:A):if true=true then A else B:=by
 rw[if_pos rfl]
 exact h
theorem dY {c A B:Prop}[Decidable c] (h1:c->A) (h2:¬c->B):if c then A else B:=by
 by_cases h:c
 · rw[if_pos h]
   exact h1 h
 · rw[if_neg h]
   exact h2 h
end L2
namespace L2
open PySem PySem.Spec PyProof.Rows
def JR (cells:List (Str×Addr)):List (Str×NameKind)->List (Str×Addr)->List (Str×Addr)
 | [],cs=>cs
 | (n,k)::r,cs=>JR cells r (if k==.free then (match cells.lookup n with | some c=>(n,c)::cs | none=>cs) else cs)
theorem S6 (env:Env):∀(names:List (Str×NameKind)) (cs:List (Str×Addr)),(∀y∈names,y.2 = .free->∃c,env.cells.lookup y.1=some c) ->
   (forIn (m:=Sem) names cs fun x r=>do
     let (name,kind):=x
     if (kind==.free)=true then do let c ← cellOf env name;pure (b2X ((name,c)::r)) else pure (b2X r))=pure (JR env.cells names cs)
 | [],cs,_=>rfl
 | (n,k)::r,cs,h=>by
   have hr:∀y∈r,y.2 = .free->∃c,env.cells.lookup y.1=some c:=fun y hy=>h y (yV _ hy)
   rw[List.forIn_cons]
   by_cases hk:(k==a5V)=true
   · obtain⟨c,hc⟩:=h (n,k) a1Z (by simpa using hk)
     have hc':env.cells.lookup n=some c:=hc
     simp only[hk,if_true,cellOf,hc',JR]
     exact S6 env r _ hr
   · simp only[hk,if_false,JR]
     exact S6 env r _ hr
theorem YU {scope:Scope}{env:Env}(h:∀y∈scope.names,y.2 = .free->∃c,env.cells.lookup y.1=some c):closureFor scope env=pure (JR env.cells scope.names []):=by
 have e:=S6 env scope.names [] h
 have e2:closureFor scope env=((forIn (m:=Sem) scope.names ([]:List (Str×Addr)) fun x r=>do
     let (name,kind):=x
     if (kind==.free)=true then do let c ← cellOf env name;pure (b2X ((name,c)::r)) else pure (b2X r)) >>= fun r=>pure r):=rfl
 rw[e2,e]
 rfl
theorem UD {cells:List (Str×Addr)}:∀{names:List (Str×NameKind)}{cs:List (Str×Addr)},(∀p∈cs,cells.lookup p.1=some p.2)->∀p∈JR cells names cs,cells.lookup p.1=some p.2
 | [],_,h=>h
 | (n,k)::r,cs,h=>by
   refine UD (names:=r) ?_
   split
   · cases e:cells.lookup n with
     | none=>exact h
     | some c=>
       intro p hp
       rcases yX.mp hp with rfl | hp
       · exact e
       · exact h p hp
   · exact h
theorem QO {cells:List (Str×Addr)}:∀{names:List (Str×NameKind)}{cs:List (Str×Addr)}{p:Str×Addr},p∈cs->p∈JR cells names cs
 | [],_,_,h=>h
 | (n,k)::r,cs,p,h=>by
   refine QO (names:=r) ?_
   split
   · cases e:cells.lookup n with
     | none=>exact h
     | some c=>exact yV _ h
   · exact h
theorem UE {cells:List (Str×Addr)}{x:Str}{c:Addr}(hc:cells.lookup x=some c):∀{names:List (Str×NameKind)}{cs:List (Str×Addr)},(x,a5V)∈names->(x,c)∈JR cells names cs
 | [],_,h=>absurd h (by simp)
 | (n,k)::r,cs,h=>by
   rcases yX.mp h with e | h
   · cases e
     refine QO (names:=r) ?_
     simp[hc]
   · exact UE hc (names:=r) h
theorem NU {α:Type}:∀{l:List (Str×α)}{x:Str}{c:α},(x,c)∈l->∃c',l.lookup x=some c'
 | [],_,_,h=>absurd h (by simp)
 | (n,k)::r,x,c,h=>by
   rw[a2J]
   cases e:x==n with
   | true=>exact⟨k,rfl⟩
   | false=>
     rcases yX.mp h with e' | h
     · cases e';simp at e
     · exact NU h
theorem BH {cells:List (Str×Addr)}{names:List (Str×NameKind)}{x:Str}{c:Addr}(h:(JR cells names []).lookup x=some c):cells.lookup x=some c:=
 UD (names:=names) (cs:=[]) (by simp) (x,c) (a4Q h)
structure CSc (X:Cx) (scope:Scope) (NC:List Str) (fr:List (Option Nat)):Prop where
 kind:scope.kind = .function
 nocell:∀y∈scope.names,y.2≠.cell
 names:∀y∈scope.names,y.2 = .local->scope.names.lookup y.1=some .local
 free:∀y∈scope.names,y.2 = .free->X.env.kindOf y.1=some .cell∨X.env.kindOf y.1=some .free
 len:fr.length=NC.length
 slot:∀(i j:Nat) (x:Str),NC[i]?=some x->fr[i]?=some (some j)->X.N[j]?=some x/\scope.names.lookup x=some .free/\Vis X.env.scope x/\X.env.kindOf x≠some .local
def capt (fr:List (Option Nat)) (σ:St):St:=fr.map fun o=>o.bind fun j=>(σ[j]?).join
def BA (X:Cx) (scope:Scope) (NC:List Str) (C:Addr) (s:Shared) (H:Hp) (ex:List Addr) (pn:List (Addr×Obj)):Cx where
 prog:=X.prog
 w:=X.w
 K:=X.K
 mg:=X.mg
 base:=X.base
 A:=X.A
 N:=NC
 s₀:=s
 H₀:=H
 env:=compEnvC scope (JR X.env.cells scope.names []) C X.env
 outer:=X.stack
 stack:=X.stack
 ex:=ex
 fn:=fun _=>false
 calm:=X.calm
 pn:=pn
 xe:=fun _ _=>False
theorem J9 {scope:Scope}{env:Env}{x:Str}:∀{names:List (Str×NameKind)},
   ((names.map fun(n,k)=>if (k==a5V&&env.scope.kind==.function&&env.kindOf n==some .cell) then (n,NameKind.cell) else (n,k)).lookup x=some .cell ∨
    (names.map fun(n,k)=>if (k==a5V&&env.scope.kind==.function&&env.kindOf n==some .cell) then (n,NameKind.cell) else (n,k)).lookup x=some .free) ->
   (∀y∈names,y.2≠.cell)->(x,a5V)∈names
 | [],h,_=>by simp at h
 | (n,k)::r,h,hn=>by
   have ih:=@J9 scope env x r
   have hn':∀y∈r,y.2≠.cell:=fun y hy=>hn y (yV _ hy)
   have hk:=hn (n,k) a1Z
   simp only[zI] at h
   by_cases hc:(k==a5V&&env.scope.kind==.function&&env.kindOf n==some .cell)=true
   · simp only[hc,if_true,a2J] at h
     cases hx:x==n with
     | true=>
       have e:x=n:=by simpa using hx
       have e2:k = .free:=by simp at hc;exact hc.1.1
       subst e e2
       exact a1Z
     | false=>
       simp only[hx] at h
       exact yV _ (ih h hn')
   · simp only[hc,a2J] at h
     cases hx:x==n with
     | true=>
       have e:x=n:=by simpa using hx
       subst e
       simp[a2J] at h
       rcases h with h | h
       · exact absurd h hk
       · subst h;exact a1Z
     | false=>
       simp[a2J,hx] at h
       exact yV _ (ih (by simpa using h) hn')
section
variable {X:Cx}{scope:Scope}{NC:List Str}{fr:List (Option Nat)}{pins:List (Addr×Obj)}{σ:St}{H:Hp}{s:Shared}
theorem CSc.has (S:CSc X scope NC fr) (ok:X.Ok):∀y∈scope.names,y.2 = .free->∃c,X.env.cells.lookup y.1=some c:=fun y hy hf=>ok.has y.1 (S.free y hy hf)
theorem CSc.cells (S:CSc X scope NC fr) (ok:X.Ok) {x:Str}(h:(x,a5V)∈scope.names):∃c,(JR X.env.cells scope.names []).lookup x=some c/\X.env.cells.lookup x=some c:=by
 obtain⟨c,hc⟩:=S.has ok _ h rfl
 have hc':X.env.cells.lookup x=some c:=hc
 obtain⟨c',h'⟩:=NU (UE hc' h (cs:=[]))
 have:=BH h'
 rw[hc'] at this;cases this
 exact⟨_,h',hc'⟩
theorem S7 {env:Env}{x:Str}{scope:Scope}(hn:∀y∈scope.names,y.2 = .local->scope.names.lookup y.1=some .local) (h:(x,a5V)∈scope.names) (hl:scope.names.lookup x≠some .free->False):(relabel scope env).names.lookup x=some .cell∨(relabel scope env).names.lookup x=some .free:=by
 have hf:scope.names.lookup x=some .free:=by
   cases e:scope.names.lookup x with
   | none=>exact(hl (by rw[e];intro z;cases z)).elim
   | some k=>
     cases k <;> first
       | rfl
       | exact(hl (by rw[e];intro z;cases z)).elim
 have go:∀(names:List (Str×NameKind)),names.lookup x=some .free ->
   ((names.map fun(n,k)=>if (k==a5V&&env.scope.kind==.function&&env.kindOf n==some .cell) then (n,NameKind.cell) else (n,k)).lookup x=some .cell ∨
    (names.map fun(n,k)=>if (k==a5V&&env.scope.kind==.function&&env.kindOf n==some .cell) then (n,NameKind.cell) else (n,k)).lookup x=some .free):=by
   intro names
   induction names with
   | nil=>intro h;simp at h
   | cons y r ih=>
     obtain⟨n,k⟩:=y
     intro h
     rw[a2J] at h
     simp only[zI]
     cases hx:x==n with
     | true=>
       simp only[hx] at h
       cases h
       split
       · left;simp[a2J,hx]
       · right;simp[a2J,hx]
     | false=>
       simp only[hx] at h
       have:=ih h
       split
       · simpa [a2J,hx] using this
       · simpa [a2J,hx] using this
 exact go scope.names hf
end
end L2
namespace L2
open PySem PySem.Spec PyProof.Rows
theorem AY {α:Type}{t:Sem α}{Q:α->Shared->Prop}{M:Model}{A:Around}{E:Value->Shared->Prop}{s:Shared}(h:wpAny M A t Q (fun _ _=>False) s):wpAny M A t Q E s:=
 wpAny_mono h (fun _ _ q=>q) fun _ _ f=>f.elim
def JS (ifs:List Expr) (env:Env):Sem Bool:=forIn ifs true fun c r=>if r=true then do let ok ← isTrue c env (eval c env);pure (b2X ok) else pure (b2X r)
theorem J7 {prog:Program}{w:World}{A:Around}{R:Result->Shared->Prop}{s:Shared}{elt target iter:Expr}{ifs:List Expr}{scope:Scope}{pos:Pos}{it acc:Value}{env:Env}(I:Nat->Shared->Prop)
   (turn:∀n s,I n s->wpAny (model prog w) A (pyNext it) (fun r s₁=>match r with
     | none=>R (.ok .next) s₁
     | some v=>wpAny (model prog w) A (letOwnedTupleGo target it v) (fun _ s₀=>wpAny (model prog w) A (assign target env v) (fun _ s₂=>
         wpAny (model prog w) A (JS ifs env) (fun ok s₃=>
           if ok=true then wpAny (model prog w) A (eval elt env) (fun x s₄=>
             wpAny (model prog w) A (call (.builtin "list.append") [acc,x]) (fun _ s₅=>∃m,m < n/\I m s₅) (fun _ _=>False) s₄) (fun _ _=>False) s₃
           else ∃m,m < n/\I m s₃) (fun _ _=>False) s₂) (fun _ _=>False) s₀) (fun _ _=>False) s₁) (fun _ _=>False) s)
   (n:Nat) (h:I n s) :
   codeAny (model prog w) A (.compLoop (.ListComp elt [⟨target,iter,ifs,0⟩] scope pos) 0 it acc env) R s:=by
 refine codeAny_loop rfl I (fun n s hI=>?_) n h
 show wpAny _ A ((compTurn (.ListComp elt [⟨target,iter,ifs,0⟩] scope pos) 0 it acc env).onRaise (fun x=>do noteFrame x env;theTreesLotGoes x)) _ _ s
 refine wpAny_noted ?_
 rw[compTurn_list]
 refine zZ (wpAny_standAt (zZ (wpAny_mono (AY (turn n s hI)) (fun r s₁ h₁=>?_) fun _ _ h'=>h')))
 cases r with
 | none=>exact zY h₁
 | some v=>
   refine zZ (wpAny_mono (AY h₁) (fun _ s₀ h₀=>?_) fun _ _ h'=>h')
   refine zZ (wpAny_mono (AY h₀) (fun _ s₂ h₂=>zZ (wpAny_mono (AY h₂) (fun ok s₃ h₃=>?_) fun _ _ h'=>h')) fun _ _ h'=>h')
   cases ok with
   | false=>exact zY ⟨rfl,h₃⟩
   | true=>
     exact zZ (zZ (wpAny_mono (AY h₃) (fun x s₄ h₄=>zZ (wpAny_mono (AY h₄) (fun _ s₅ h₅=>zY (zY ⟨rfl,h₅⟩)) fun _ _ h'=>h')) fun _ _ h'=>h'))
def PTs (X:Cx) (ifs:List Expr) (t:TT):Prop:=
 ∀(pins:List (Addr×Obj)) (s:Shared) (σ:St) (H:Hp) (Q:Bool->Hp->Prop),Inv X pins σ H s->t σ H Q->wpAny (model X.prog X.w) X.A (JS ifs X.env) (TP X pins σ Q) X.xe s
def tV:TT:=fun _ H Q=>Q true H
theorem kJ {X:Cx}:PTs X [] tV:=fun _ _ _ H _ I h=>wpAny_tests_nil ⟨H,I,h⟩
theorem kK {X:Cx}{c:Expr}{t:TT}(h:PT X c t):PTs X [c] t:=fun pins s σ H Q I q=>wpAny_tests_one (h pins s σ H Q I q)
def QR (fr:List (Option Nat)) (wi:TI) (g:TG) (tt:TT) (te:TE):TE:=fun σ H Q=>wi σ H fun J H1=>∀D,H1 D=none->∃W:Nat->Nat->List V->Hp->Prop,(∃m,W 0 m [] (upd H1 D (.lst []))) /\
 ∀i m ys H2,W i m ys H2->H2 D=some (.lst ys)/\((J.stop i H2/\Q (.ref D) H2)∨(J.go i H2/\∀x H3,J.yld i H2 x H3->g x (capt fr σ) H3 fun σ2 H4=>
   (∀(i:Nat) v,(capt fr σ)[i]?=some (some v)->σ2[i]?=some (some v))/\tt σ2 H4 fun c H5=>if c=true then te σ2 H5 fun y H6=>∃ys',H6 D=some (.lst ys')/\ys'.length < sizeLine/\∃m',m' < m/\W (i+1) m' (ys'++[y]) (upd H6 D (.lst (ys'++[y])))
     else ∃ys' m',m' < m/\W (i+1) m' ys' H5))
section
variable {X:Cx}{scope:Scope}{NC:List Str}{fr:List (Option Nat)}{pins:List (Addr×Obj)}{σ:St}{H:Hp}{s:Shared}
theorem NV {fp:List Addr}{h1:Heap}{m:Str->Option Value}{tk:Nat}(S:CSc X scope NC fr) (I:Inv X pins σ H s) (hfp:∀b∈fp,JP X pins H b) (hlt:∀b∈fp,b < s.heap.objs.size)
   (hns:h1.Ns s.heap.objs.size m) (hk:∀b o,s.heap.get? b=some o->h1.get? b=some o) :
   Inv (BA X scope NC s.heap.objs.size s H fp (X.pn++pins)) [] (capt fr σ) H { s with heap:=h1,toks:=tk }:=by
 have I4:Inv X pins σ H { s with heap:=h1,toks:=tk }:=I.kept hk
 have nstk:∀b,b≠X.env.locals->b∉X.fs->b∉frs X.stack:=fun b h1 h2 z=>(yX.mp (I.stkSub b z)).elim h1 h2
 refine⟨⟨I.ok.mod,S.kind,I.ok.glob,I.ok.blt,zR _,fun x y c h1 h2=>I.ok.inj x y c (BH h1) (BH h2),fun x hx=>?_,fun x c h=>absurd h (by intro z;cases z),I.ok.hd,I.ok.frames,.inl rfl,fun b hb=>?_,I.bs,zN I.ok.bsz I.sz,fun b o e hb=>?_,fun b hb=>?_,I.stack,I.stkFree⟩,
   rfl,I.bare,Un.kept hk,⟨m,hns,fun i x v e1 e2 e3=>?_⟩,fun x c e=>I4.cell x c (BH e),I.hok.fresh (zR _),fun x c e=>I4.freeC x c (BH e),fun p hp=>?_,I4.hok,?_⟩
 · have hx':=J9 (scope:=scope) (env:=X.env) (x:=x) (names:=scope.names) hx S.nocell
   obtain⟨c,h,_⟩:=S.cells I.ok hx'
   exact⟨c,h⟩
 · exact⟨zC (hlt b hb),fun x c e=>(hfp b hb).2.2.2.2.1 x c (BH e)⟩
 · rcases (hfp b hb).2.2.2.1 with z | z
   · exact I.ok.noex b o e z
   · exact absurd (zP (zM e) (zN I.ok.bsz z)) (yF _)
 · exact nstk b (hfp b hb).2.1 (hfp b hb).2.2.1
 · have e2':∃j,fr[i]?=some (some j)/\σ[j]?=some (some v):=by
     unfold capt at e2
     rw[zF] at e2
     cases hf:fr[i]? with
     | none=>rw[hf] at e2;cases e2
     | some o=>
       rw[hf] at e2
       cases o with
       | none=>cases e2
       | some j=>
         refine⟨j,rfl,?_⟩
         have e2:((σ[j]?).join)=some v:=Option.some.inj e2
         cases hs:σ[j]? with
         | none=>rw[hs] at e2;cases e2
         | some q=>rw[hs] at e2;cases q with
           | none=>cases e2
           | some v'=>cases e2;rfl
   obtain⟨j,f1,f2⟩:=e2'
   obtain⟨g1,g2,g3,g4⟩:=S.slot i j x e1 f1
   obtain⟨m',hn',hl'⟩:=I4.loc
   obtain⟨u,r,l⟩:=hl' j x v g1 f2 g3
   rcases l with ⟨k,_⟩ | ⟨k,c,hc,hcell⟩
   · exact absurd k g4
   · obtain⟨c',q1,q2⟩:=S.cells I.ok (a4Q g2)
     rw[hc] at q2;cases q2
     exact⟨u,r,.inr ⟨S7 S.names (a4Q g2) (fun z=>z g2),c,q1,hcell⟩⟩
 · have hp':p∈X.pn++pins:=by rw[a8X] at hp;exact hp
   obtain⟨p1,p2,p3,p4,p5⟩:=I4.pin p hp'
   exact⟨p1,p2,zC (zM (I.pin p hp').1),nstk _ p3 p4,p5⟩
 · unfold capt
   rw[zX]
   exact S.len
theorem UF {elt iter tg:Expr}{ifs:List Expr}{pos cpos:Pos}{wi:TI}{g:TG}{tt:TT}{te:TE}{use:Option (Value->Sem Unit)}{Q:VK}{QQ:Value->Shared->Prop}
   (hc:X.calm=true) (S:CSc X scope NC fr) (hi:PI X tg iter wi)
   (hb:∀(C:Addr) (s:Shared) (H:Hp) (ex:List Addr) (pn:List (Addr×Obj)),PG (BA X scope NC C s H ex pn) tg g/\PTs (BA X scope NC C s H ex pn) ifs tt/\PE (BA X scope NC C s H ex pn) elt te)
   (I:Inv X pins σ H s) (h:QR fr wi g tt te σ H Q)
   (fin:∀(D C:Addr) (H':Hp) (s':Shared) (m:Str->Option Value) (oC:Obj),Inv X (pins++[(C,oC)]) σ H' s'->s'.heap.Ns C m->Q (.ref D) H' ->
     (∀(pins':List (Addr×Obj)) (σ2:St) (H2:Hp) (s2:Shared) (h2:Heap),Inv X (pins++[(C,oC)]) σ2 H2 s2->Heap.SameBut C s2.heap h2->Inv X pins σ2 H2 { s2 with heap:=h2 }) ->
     s'.heap.get? C=some oC ->
     match use with
     | none=>∀h',Heap.SameBut C s'.heap h'->QQ (.ref D) { s' with heap:=h' }
     | some u=>wpAny (model X.prog X.w) X.A (u (.ref D)) (fun _ s''=>∃m,s''.heap.Ns C m/\∀h',Heap.SameBut C s''.heap h'->QQ .none { s'' with heap:=h' }) X.xe s')
   (hs:∀x,foldedSetIterable iter X.env x=pure x) :
   wpAny (model X.prog X.w) X.A (comprehension (.ListComp elt [⟨tg,iter,ifs,0⟩] scope pos) scope X.env cpos (newList []) false (eval iter X.env) use) QQ X.xe s:=by
 refine wpAny_comprehension_free (use:=use) rfl hs (YU (S.has I.ok)) S.kind S.names (thn (hi pins s σ H _ I h) fun v s1 h1=>thn h1 fun itv s2 h2=>?_)
 obtain⟨it,fp,tn,J,H2,e,I2,T,st2,f2,hq⟩:=h2
 subst e
 have hDn:H2 s2.heap.objs.size=none:=I2.hok.fresh (zR _)
 obtain⟨W,⟨m0,w0⟩,turn⟩:=hq s2.heap.objs.size hDn
 refine xM (wpAny_newFunctionEnv S.nocell (by intro y hy;simp at hy) (fun h₁ hns₁ hsb₁=>?_) S.kind)
 dsimp only at hns₁ hsb₁ ⊢
 generalize hs3:({ s2 with heap:=s2.heap.push { cls:=.type "list", dict:=none,data:=.seq ([]:List Value).toArray } }:Shared)=s3
 have hh3:s2.heap.push { cls:=.type "list", dict:=none,data:=.seq ([]:List Value).toArray }=s3.heap:=by rw[← hs3]
 have I3:Inv X pins σ (upd H2 s2.heap.objs.size (.lst [])) s3:=by
   rw[← hs3]
   refine I2.laid (t':=s2.toks) (fun b u e=>zW _ e) (zR _) ?_
   exact⟨xT _,[],0,.nil,yZ _ rfl⟩
 rw[hh3] at hns₁ hsb₁ ⊢
 have sz3:s3.heap.objs.size=s2.heap.objs.size+1:=by rw[← hh3,a5J]
 have lt2:∀b∈fp,b < s2.heap.objs.size:=fun b hb=>by
   obtain⟨o,e,_⟩:=T.obj _ _ st2 b hb
   exact zM e
 have lt3:∀b∈fp,b < s3.heap.objs.size:=fun b hb=>by rw[sz3];exact b1Q (lt2 b hb)
 have f3:∀b∈fp,JP X pins (upd H2 s2.heap.objs.size (.lst [])) b:=fun b hb=>⟨by rw[AF (zC (lt2 b hb))];exact(f2 b hb).1,(f2 b hb).2⟩
 have keep1:∀b o,s3.heap.get? b=some o->h₁.get? b=some o:=fun b o e=>hsb₁.extBut b o (zC (zM e)) (zW _ e)
 generalize hC:s3.heap.objs.size=C at hns₁ hsb₁ ⊢
 have I0:Inv (BA X scope NC C s3 (upd H2 s2.heap.objs.size (.lst [])) fp (X.pn++pins)) [] (capt fr σ) (upd H2 s2.heap.objs.size (.lst [])) { s2 with heap:=h₁,toks:=s2.toks+([]:List (Str×Value)).length }:=by
   have:=NV (tk:=s2.toks+([]:List (Str×Value)).length) (h1:=h₁) S I3 f3 lt3 (hC▸hns₁) keep1
   rw[hC] at this
   rw[← hs3] at this
   rw[← hs3]
   exact this
 obtain⟨hbg,hbt,hbe⟩:=hb C s3 (upd H2 s2.heap.objs.size (.lst [])) fp (X.pn++pins)
 generalize hX':BA X scope NC C s3 (upd H2 s2.heap.objs.size (.lst [])) fp (X.pn++pins)=X' at I0 hbg hbt hbe
 have eP:X'.prog=X.prog:=by rw[← hX'];rfl
 have eW:X'.w=X.w:=by rw[← hX'];rfl
 have eK:X'.K=X.K:=by rw[← hX'];rfl
 have eA:X'.A=X.A:=by rw[← hX'];rfl
 have eE:X'.env=compEnvC scope (JR X.env.cells scope.names []) C X.env:=by rw[← hX'];rfl
 have eX:X'.xe=fun _ _=>False:=by rw[← hX'];rfl
 have ec:X'.calm=true:=by rw[← hX'];exact hc
 have stat:∀{H':Hp},(∀b∈fp,H' b=none)->∀b∈fp,JP X' [] H' b:=fun {H'} hn b hb=>by
   obtain⟨q1,q2,q3,q4,q5,q6⟩:=f3 b hb
   rw[← hX']
   exact⟨hn b hb,by show b≠C;rw[← hC];exact zC (lt3 b hb),fun z=>(yX.mp (I3.stkSub b z)).elim q2 q3,.inl hb,fun x c e=>q5 x c (BH e),fun p hp=>q6 p (by rw[a8X] at hp;exact hp)⟩
 have ends:∀(i m:Nat) (ys:List V) (H':Hp) (s':Shared),Inv X' [] (capt fr σ) H' s'->Q (.ref s2.heap.objs.size) H' ->
     compPost (model X.prog X.w) X.A X.xe use QQ (.ref s2.heap.objs.size) C (.ok .next) s':=by
   intro i m ys H' s' I' q'
   have eC:X'.env.locals=C:=by rw[eE];rfl
   obtain⟨mC,hnC,_⟩:=I'.loc
   rw[eC] at hnC
   have hCn:H' C=none:=by have:=I'.free;rw[eC] at this;exact this
   have un:Un (frs X.stack) fp (upd H2 s2.heap.objs.size (.lst [])) H' s3.heap s'.heap:=by
     have:=I'.base
     rw[← hX'] at this
     exact this
   have os':s'.os=s3.os:=by have:=I'.os;rw[← hX'] at this;exact this
   have hok':HOk X.prog X.w H' s'.heap:=by have:=I'.hok;rw[eP,eW] at this;exact this
   have Iout:Inv X pins σ H' s':=I3.call' (ch:=fp) os' un hok' I'.bare fun b hb=>⟨(f3 b hb).2.2.2.1,(f3 b hb).2.1,(f3 b hb).2.2.2.2.1,(f3 b hb).2.2.2.2.2⟩
   have C1:C≠X.env.locals:=by rw[← hC];exact a5K I3.lt
   have C2:C∉X.fs:=by rw[← hC];exact I3.nofs (zR _)
   have C3:X.s₀.heap.objs.size<=C:=by rw[← hC];exact I3.sz
   have C4:∀x c,X.env.cells.lookup x=some c->c≠C:=fun x c e z=>by
     obtain⟨v,q⟩:=I3.cell x c e
     rw[z,← hC] at q
     exact absurd q.lt (yF _)
   have C5:∀p∈X.pn++pins,p.1≠C:=fun p hp z=>by
     have:=zM (I3.pin p hp).1
     rw[z,← hC] at this
     exact absurd this (yF _)
   obtain⟨oC,esC,epC,hoC,hdC,hrC⟩:=id hnC
   have Ipin:Inv X (pins++[(C,oC)]) σ H' s':=Iout.pins_of fun p hp=>(yW.mp hp).elim (fun z=>Iout.pin p (zB _ z)) fun z=>by
     have e:p=(C,oC):=by simpa using z
     subst e
     exact⟨hoC,hCn,C1,C2,fun v z=>by rw[hdC] at z;cases z⟩
   have res:=fin s2.heap.objs.size C H' s' mC oC Ipin hnC q' (fun _ σ2 H3 s4 h4 I4 sb=>by
     have J4:Inv X pins σ2 H3 s4:=I4.unpinned
     have hn4:H3 C=none:=(I4.pin (C,oC) (zB _ (zB _ (by simp)))).2.1
     exact J4.turned (t':=s4.toks) (it:=C) (fun b o hb e=>sb.extBut b o hb e) hn4 C1 (.inr C3) C4 C5) hoC
   cases use with
   | none=>exact⟨mC,hnC,res⟩
   | some u=>exact res
 have loop:∀s':Shared,s'={ s2 with heap:=h₁,toks:=s2.toks+([]:List (Str×Value)).length } ->
     codeAny (model X.prog X.w) X.A (.compLoop (.ListComp elt [⟨tg,iter,ifs,0⟩] scope pos) 0 (.ref it) (.ref s2.heap.objs.size) (compEnvC scope (JR X.env.cells scope.names []) C X.env))
       (compPost (model X.prog X.w) X.A X.xe use QQ (.ref s2.heap.objs.size) C) s':=by
   rintro s' rfl
   refine J7 (fun n s'=>∃i ys H',Inv X' [] (capt fr σ) H' s'/\tn i s'.heap/\(∀b∈fp,H' b=none)/\W i n ys H') ?_ m0
     ⟨0,[],_,I0,T.keep _ _ _ st2 (fun b hb o e=>keep1 b o (by rw[← hh3];exact zW _ e)),fun b hb=>(f3 b hb).1,w0⟩
   rintro n s5 ⟨i,ys,H5,I5,st5,fr5,w5⟩
   obtain⟨hD5,hturn⟩:=turn i n ys H5 w5
   rcases hturn with ⟨stop,qn⟩ | ⟨go,step⟩
   · have:=T.done X' eP eW eK ec i [] s5 (capt fr σ) H5 (fun _ _=>False) I5 (stat fr5) st5 stop
     rw[eA] at this
     refine thn this fun r s6 ⟨hr,I6⟩=>?_
     subst hr
     exact ends i n ys H5 s6 I6 qn
   · have:=T.item X' eP eW eK ec i [] s5 (capt fr σ) H5 (fun _ _=>False) I5 (stat fr5) st5 go
     rw[eA] at this
     refine thn this fun r s6 ⟨u,hr,h6⟩=>?_
     subst hr
     refine thn h6 fun _ s7 ⟨x,H7,I7,r7,y7,st7,fr7⟩=>?_
     have I7':=I7.pinned (stat fr7) (T.obj _ _ st7)
     have hg1:=hbg _ s7 (capt fr σ) H7 x u _ I7' r7 (step x H7 y7)
     rw[eP,eW,eA,eE,eX] at hg1
     refine thn hg1 fun _ s8 ⟨σ8,H8,I8,ext8,q8⟩=>?_
     have ht1:=hbt _ s8 σ8 H8 _ I8 q8
     rw[eP,eW,eA,eE,eX] at ht1
     refine thn ht1 fun ok s9 ⟨H9,I9,q9⟩=>?_
     have weak:∀{H':Hp}{s':Shared},Inv X' ([]++L7 fp s7.heap) σ8 H' s'->Inv X' [] (capt fr σ) H' s'/\tn (i+1) s'.heap/\∀b∈fp,H' b=none:=fun {H' s'} I'=>by
       refine⟨I'.unpinned.weak (by rw[I'.len];rw[I0.len]) ext8,T.keep _ _ _ st7 fun b hb o e=>(I'.pin (b,o) (zB _ (zB _ (D4 hb e)))).1,fun b hb=>?_⟩
       obtain⟨o,e,d⟩:=T.obj _ _ st7 b hb
       exact(I'.pin (b,o) (zB _ (zB _ (D4 hb e)))).2.1
     cases ok with
     | false=>
       rw[if_neg nft] at q9
       obtain⟨ys',m',hm',w'⟩:=q9
       obtain⟨a1,a2,a3⟩:=weak I9
       exact⟨m',hm',i+1,ys',H9,a1,a2,a3,w'⟩
     | true=>
       rw[if_pos rfl] at q9
       have he1:=hbe _ s9 σ8 H9 _ I9 q9
       rw[eP,eW,eA,eE,eX] at he1
       refine thn he1 fun y s10 ⟨yv,H10,I10,r10,ys',hD10,hsz,m',hm',w'⟩=>?_
       have ha:=QJ (X:=X') _ s10 σ8 H10 (.ref s2.heap.objs.size) [yv] (.ref s2.heap.objs.size) [y] (fun _ H'=>∃m',m' < n/\W (i+1) m' (ys'++[yv]) H') I10 rfl (.cons r10 .nil) ⟨_,ys',yv,rfl,rfl,hD10,hsz,m',hm',w'⟩
       rw[eP,eW,eA,eX] at ha
       refine thn ha fun _ s11 ⟨_,H11,I11,_,m'',hm'',w''⟩=>?_
       obtain⟨a1,a2,a3⟩:=weak I11
       exact⟨m'',hm'',i+1,_,H11,a1,a2,a3,w''⟩
 refine codeAny_compStart_list (loop _ rfl) (T.self _ 0 _ _ _ ?_ (loop _ rfl))
 exact T.keep _ _ _ st2 (fun b hb o e=>keep1 b o (by rw[← hh3];exact zW _ e))
end
end L2
namespace L2
open PySem PySem.Spec PyProof.Rows
section
variable {X:Cx}{scope:Scope}{NC:List Str}{fr:List (Option Nat)}{elt iter tg:Expr}{ifs:List Expr}{pos:Pos}{wi:TI}{g:TG}{tt:TT}{te:TE}
theorem kL (hc:X.calm=true) (S:CSc X scope NC fr) (hi:PI X tg iter wi)
   (hb:∀(C:Addr) (s:Shared) (H:Hp) (ex:List Addr) (pn:List (Addr×Obj)),PG (BA X scope NC C s H ex pn) tg g/\PTs (BA X scope NC C s H ex pn) ifs tt/\PE (BA X scope NC C s H ex pn) elt te)
   (hs:∀x,foldedSetIterable iter X.env x=pure x:=by intro _;rfl):PE X (.ListComp elt [⟨tg,iter,ifs,0⟩] scope pos) (QR fr wi g tt te):=by
 intro pins s σ H Q I h
 rw[eval_ListComp]
 refine UF (use:=none) (Q:=Q) hc S hi hb I h (fun D C H' s' m oC I' hn q back _ h' sb=>?_) hs
 exact⟨.ref D,H',back pins σ H' s' h' I' sb,rfl,q⟩
theorem kM {i:Nat}{x:Str}{py spos:Pos}(hc:X.calm=true) (hN:X.N.Nodup) (hix:X.N[i]?=some x) (hx:Loc X.env.scope x) (S:CSc X scope NC fr) (hi:PI X tg iter wi)
   (hb:∀(C:Addr) (s:Shared) (H:Hp) (ex:List Addr) (pn:List (Addr×Obj)),PG (BA X scope NC C s H ex pn) tg g/\PTs (BA X scope NC C s H ex pn) ifs tt/\PE (BA X scope NC C s H ex pn) elt te)
   (hsw:swapsWith (.ListComp elt [⟨tg,iter,ifs,0⟩] scope pos) (some (.Name x py)) spos.line X.env=pure true)
   (hf:X.fn x=true∨X.env.scope.names.lookup x=some .local:=by first | exact .inl rfl | exact .inr rfl | assumption)
   (hs:∀x,foldedSetIterable iter X.env x=pure x:=by intro _;rfl) :
   PS X (.Assign [.Name x py] (.ListComp elt [⟨tg,iter,ifs,0⟩] scope pos) spos) (fun D σ H=>QR fr wi g tt te σ H fun v H'=>D.nx (σ.set i (some v)) H'):=by
 intro pins s σ H D I h
 rw[exec_Assign_Name_used _ _ _ _ hsw]
 refine zZ (wpAny_standAt (zZ ?_))
 show wpAny _ X.A (do let _ ← comprehension (.ListComp elt [⟨tg,iter,ifs,0⟩] scope pos) scope X.env _ (newList []) false (eval iter X.env) (some (assign (.Name x py) X.env))) _ _ s
 refine zZ (thn (UF (use:=some (assign (.Name x py) X.env)) (Q:=fun v H'=>D.nx (σ.set i (some v)) H') (QQ:=fun _ s'=>∃σ' H',Inv X pins σ' H' s'/\D.nx σ' H') hc S hi hb I h (fun A C H' s' m oC I' hn q back hoC=>?_) hs) fun _ s' hq=>zY (zY hq))
 have hst:=YJ (X:=X) (pos:=py) hN hix hx hf (pins++[(C,oC)]) s' σ H' (.ref A) (.ref A) (fun σ' H'=>D.nx σ' H') I' rfl q
 refine thn hst fun _ s2 ⟨σ2,H2,I2,q2⟩=>?_
 have hC2:s2.heap.get? C=some oC:=(I2.pin (C,oC) (zB _ (zB _ (by simp)))).1
 obtain⟨o',es,ep,ho',hd',hr'⟩:=hn
 rw[hoC] at ho';cases ho'
 exact⟨m,⟨_,es,ep,hC2,hd',hr'⟩,fun h' sb=>⟨σ2,H2,back pins σ2 H2 s2 h' I2 sb,q2⟩⟩
end
def Its (x:Str):It:=⟨fun i _=>i < x.cps.size,fun i H v H'=>H'=H/\∃c,x.cps[i]?=some c/\v = .str ⟨#[c]⟩,fun i _=>i=x.cps.size⟩
theorem UG {P:Program}{w:World}{K:Frg}{tg:Expr}(it:Addr) (ty:String) (x:Str) (t:Tok) (hty:["enumerate", "zip", "dict_itemiterator", "dict_reverseitemiterator", "odict_iterator", "itertools.zip_longest", "itertools.pairwise"].contains ty=false)
   (W:∀A:Around,A.handled=none->Walks P w A it [it] [it] x.cps.size (SignAt x) (fun i h=>h.IsStrIter it ty x t i))
   (hself:∀(A:Around) (i:Nat) (s:Shared) (Q:Value->Shared->Prop) (E:Value->Shared->Prop),s.heap.IsStrIter it ty x t i->Q (.ref it) s->wpAny (model P w) A (pyIter (.ref it)) Q E s) :
   Turn P w K tg (Its x) [it] it (fun i h=>h.IsStrIter it ty x t i) where
 mem:=by simp
 obj:=fun i h st b hb=>by
   have e:b=it:=by simpa using hb
   subst e
   obtain⟨o,e,c,d⟩:=st
   exact⟨o,e,fun v z=>by rw[d] at z;cases z⟩
 keep:=fun i h h' st k=>by
   obtain⟨o,e,r⟩:=st
   exact⟨o,k it (by simp) o e,r⟩
 item:=by
   intro X hP hw hK hc i pins s σ H E I hf st hg
   subst hP hw hK
   obtain⟨f0,f1,f2,f3,f4,f5⟩:=hf it (by simp)
   refine(W X.A (I.ok.hd hc)).item i s _ _ hg st fun v h' tk hv st' kk=>?_
   obtain⟨c,u,hcx,rfl⟩:=hv
   have I1:Inv X pins σ H { s with heap:=h',toks:=tk }:=I.turned (fun b o hb e=>kk b o (by simpa using hb) e) f0 f1 f3 f4 f5
   obtain⟨o,e,c',d⟩:=id st'
   exact⟨_,rfl,YL (s:={ s with heap:=h',toks:=tk }) e c' d hty ⟨.str ⟨#[c]⟩,H,I1,⟨u,rfl⟩,⟨rfl,c,hcx,rfl⟩,st',fun b hb=>(hf b hb).1⟩⟩
 done:=by
   intro X hP hw hK hc i pins s σ H E I hf st hg
   subst hP hw hK
   obtain⟨f0,f1,f2,f3,f4,f5⟩:=hf it (by simp)
   have hi:i=x.cps.size:=hg
   subst hi
   refine(W X.A (I.ok.hd hc)).done s _ _ st fun h' tk kk=>⟨rfl,I.turned (fun b o hb e=>kk b o (by simpa using hb) e) f0 f1 f3 f4 f5⟩
 self:=hself
theorem S8 (bs:List Bool):(a1V bs.length).all (fun i=>(bs[i]?).getD false)=bs.all id:=by
 rw[a8Z,b2Q,b2Q]
 constructor
 · intro h b hb
   obtain⟨i,hi,rfl⟩:=List.mem_iff_getElem.mp hb
   have:=h i (by simpa using hi)
   simpa [hi] using this
 · intro h i hi
   have hi:i < bs.length:=by simpa using hi
   have:=h bs[i] (b1V hi)
   simpa [hi] using this
theorem S9 (bs:List Bool):(a1V bs.length).any (fun i=>(bs[i]?).getD false)=bs.any id:=by
 rw[a8Z,c0X,c0X]
 constructor
 · rintro⟨i,hi,h⟩
   have hi:i < bs.length:=by simpa using hi
   exact⟨bs[i],b1V hi,by simpa [hi] using h⟩
 · rintro⟨b,hb,h⟩
   obtain⟨i,hi,rfl⟩:=List.mem_iff_getElem.mp hb
   exact⟨i,by simpa using hi,by simpa [hi] using h⟩
section
variable {X:Cx}
theorem YV {bs:List Bool}{its:List Value}(r:Vals (bs.map V.bl) its) {i:Nat}{v:Value}(h:its.toArray[i]?=some v):v = .bool ((bs[i]?).getD false):=by
 have h':its[i]?=some v:=by simpa using h
 have hl:i < its.length:=(yT.mp h').1
 have e:=r.length
 rw[zX] at e
 have hb:(bs.map V.bl)[i]?=some (V.bl bs[i]):=by rw[zF];simp[show i < bs.length by omega]
 obtain⟨u,hu,ru⟩:=r.get hb
 rw[h'] at hu;cases hu
 simp[show i < bs.length by omega]
 exact ru
def vH (X:Cx):List V->Hp->VK->Prop:=fun xs H Q=>∃(p:Addr) (bs:List Bool),xs=[.ref p]/\SqL X.K H p (bs.map V.bl)/\Q (.bl (bs.all id)) H
theorem dZ (hc:X.calm=true):B2 X (.builtin "all") (vH X):=by
 intro pins s σ H xs us Q I r h
 obtain⟨p,bs,rfl,hp,q⟩:=h
 obtain⟨u,rfl,ru⟩:=DN r
 cases ru
 obtain⟨its,rv,pl,hz⟩:=I.list hp
 have hne:p≠s.heap.objs.size:=by obtain⟨o,n,e,_⟩:=pl;exact zC (zM e)
 have el:=rv.length
 rw[zX] at el
 refine call_all_walk (wpAny_pyIter_list pl.isList ?_)
 refine⟨s.heap.objs.size,_,_,_,_,_,fun i=>(bs[i]?).getD false,rfl,Walks.list (show X.A.in1.handled=none from I.ok.hd hc) s.heap.objs.size p hne its.toArray,⟨⟨_,yZ _ rfl,rfl,rfl⟩,?_⟩,fun i v s' Q' E' hv hq=>?_,fun h' tk hk=>?_⟩
 · obtain⟨o,n,e,c,d,dd⟩:=pl
   exact⟨o,zW _ e,c,n,dd⟩
 · rw[YV rv hv]
   exact wpAny_truthy_bool hq
 · refine⟨.bl (bs.all id),H,?_,?_,q⟩
   · exact I.kept (t':=tk) fun b o e=>hk b o (by simp;exact zC (zM e)) (zW _ e)
   · rw[zJ,← el,S8];rfl
def vI (X:Cx):List V->Hp->VK->Prop:=fun xs H Q=>∃(p:Addr) (bs:List Bool),xs=[.ref p]/\SqL X.K H p (bs.map V.bl)/\Q (.bl (bs.any id)) H
theorem e7 (hc:X.calm=true):B2 X (.builtin "any") (vI X):=by
 intro pins s σ H xs us Q I r h
 obtain⟨p,bs,rfl,hp,q⟩:=h
 obtain⟨u,rfl,ru⟩:=DN r
 cases ru
 obtain⟨its,rv,pl,hz⟩:=I.list hp
 have hne:p≠s.heap.objs.size:=by obtain⟨o,n,e,_⟩:=pl;exact zC (zM e)
 have el:=rv.length
 rw[zX] at el
 refine call_any_walk (wpAny_pyIter_list pl.isList ?_)
 refine⟨s.heap.objs.size,_,_,_,_,_,fun i=>(bs[i]?).getD false,rfl,Walks.list (show X.A.in1.handled=none from I.ok.hd hc) s.heap.objs.size p hne its.toArray,⟨⟨_,yZ _ rfl,rfl,rfl⟩,?_⟩,fun i v s' Q' E' hv hq=>?_,fun h' tk hk=>?_⟩
 · obtain⟨o,n,e,c,d,dd⟩:=pl
   exact⟨o,zW _ e,c,n,dd⟩
 · rw[YV rv hv]
   exact wpAny_truthy_bool hq
 · refine⟨.bl (bs.any id),H,?_,?_,q⟩
   · exact I.kept (t':=tk) fun b o e=>hk b o (by simp;exact zC (zM e)) (zW _ e)
   · rw[zJ,← el,S9];rfl
def qH:V->Option Int->Option Int->Hp->VK->Prop:=fun x lo hi H Q=>∃y,x = .str y/\y.length<=sizeLine/\Q (.str (a0J y lo hi)) H
theorem qI:SlR X qH:=by
 intro pins s σ H x v vl vu lo hi sl Q I rx hs pl pu h
 obtain⟨y,rfl,hz,q⟩:=h
 obtain⟨t,rfl⟩:=rx
 refine⟨"str", _,F.slot_str_getitem.lookup,typeIs_str _ _ _,?_⟩
 cases pl with
 | none=>
   cases pu with
   | none=>exact wpAny_getItem_str_slice (l:=none) (u:=none) (st:=none) hs rfl (post_val_or_str ⟨zN (Txt.slice_le y _ _) hz,fun t' k=>⟨.str _,H,I.tok _,⟨_,rfl⟩,q⟩⟩)
   | int j tj=>exact wpAny_getItem_str_slice (l:=none) (u:=some (j,tj)) (st:=none) hs rfl (post_val_or_str ⟨zN (Txt.slice_le y _ _) hz,fun t' k=>⟨.str _,H,I.tok _,⟨_,rfl⟩,q⟩⟩)
 | int i ti=>
   cases pu with
   | none=>exact wpAny_getItem_str_slice (l:=some (i,ti)) (u:=none) (st:=none) hs rfl (post_val_or_str ⟨zN (Txt.slice_le y _ _) hz,fun t' k=>⟨.str _,H,I.tok _,⟨_,rfl⟩,q⟩⟩)
   | int j tj=>exact wpAny_getItem_str_slice (l:=some (i,ti)) (u:=some (j,tj)) (st:=none) hs rfl (post_val_or_str ⟨zN (Txt.slice_le y _ _) hz,fun t' k=>⟨.str _,H,I.tok _,⟨_,rfl⟩,q⟩⟩)
theorem YW:∀{ys:List Str}{its:List Value},Vals (ys.map V.str) its->StrsAre its ys
 | [],_,.nil=>.nil
 | y::r,_,.cons h t=>by
   obtain⟨tk,rfl⟩:=h
   exact .cons y tk (YW t)
def oB (K:Frg):R2:=fun x y H Q=>∃a b xs ys,x = .ref a/\y = .ref b/\SqL K H a xs/\SqL K H b ys/\xs.length+ys.length<=sizeLine/\∀p,H p=none->Q (.ref p) (upd H p (.lst (xs++ys)))
theorem kN:OpR X (binaryOp .Add) (oB X.K):=by
 intro pins s σ H x y v u Q I rx ry h
 obtain⟨l,b,xs,zs,rfl,rfl,hH,hB,hz,q⟩:=h
 cases rx
 cases ry
 obtain⟨its,r,pl,hl⟩:=I.list hH
 obtain⟨its2,r2,pl2,hl2⟩:=I.list hB
 have e1:=r.length
 have e2:=r2.length
 obtain⟨⟨cls,dd,data,sl⟩,n,ho,hc,_,hd⟩:=pl
 obtain⟨⟨cls2,dd2,data2,sl2⟩,n2,ho2,hc2,_,hd2⟩:=pl2
 dsimp only at hc hd hc2 hd2
 subst hc hd hc2 hd2
 have ea:its.toArray++its2.toArray=(its++its2).toArray:=by simp
 have fin:EP X pins σ Q (.ref s.heap.objs.size) { s with heap:=s.heap.push { cls:=.type "list", data:=.seq (its.toArray++its2.toArray) } }:=by
   rw[ea]
   exact⟨.ref _,_,I.lnew (t':=s.toks) (r.append r2) (by rw[yY];omega),rfl,q _ I.fresh⟩
 exact concat_meets ⟨_,ho,rfl⟩ ⟨_,ho2,rfl⟩ noFill_list_add seq_list_add PySem.F.slot_list_add PySem.F.entry_list_add (PySem.F.args_list_add_2 _ _) (list_addW l b its.toArray its2.toArray n n2 dd dd2 sl sl2 (by rw[zJ,zJ];omega)) ⟨ho,ho2,fin⟩
def oE (i j:Int):Prop:=0 < j/\j < 2 ^ 64
theorem e8:OpR X (binaryOp .FloorDiv) (rI oE fun i j=>.int (i/j)):=opI fun i j _ _ _ _ _ hc q=>by
 have h1:(0:Int) < j:=hc.1
 have h2:j.natAbs.log2 < 9000:=by
   have h0:j.natAbs≠0:=by omega
   have:j.natAbs < 2 ^ 64:=by have:=hc.2;omega
   exact zP ((Nat.log2_lt h0).mpr this) (by decide)
 exact floordiv_int (by omega) (by rw[Int.fdiv_eq_ediv_of_nonneg i (by omega)];exact q) (.inl (PyProof.noPylong_of_log2 h2))
end
end L2
namespace L2
open PySem PySem.Spec PyProof.Rows
def e9:Key->PyData
 | .inl i=>.int i
 | .inr x=>.str x
def LW (K:Frg) (H:Hp) (W:Addr->Prop) (a:Addr) (xs:List V):Prop:=
 (¬W a/\Rd H a (.lst xs))∨∃(o:Obj) (its:Array Value) (n:Nat),K.lookup a=some o/\o.cls = .type "list" /\ o.dict=none/\o.data = .seq its n/\its.size<=sizeLine/\Vals xs its.toList
def TW (K:Frg) (H:Hp) (W:Addr->Prop) (a:Addr) (xs:List V):Prop:=
 (¬W a/\Rd H a (.tup xs))∨∃(o:Obj) (its:Array Value) (n:Nat),K.lookup a=some o/\o.cls = .type "tuple" /\ o.data = .seq its n/\its.size<=sizeLine/\Vals xs its.toList
theorem LW.sq {K:Frg}{H:Hp}{W:Addr->Prop}{a:Addr}{xs:List V}(h:LW K H W a xs):SqL K H a xs:=h.elim (fun z=>.inl z.2) .inr
theorem TW.sq {K:Frg}{H:Hp}{W:Addr->Prop}{a:Addr}{xs:List V}(h:TW K H W a xs):SqT K H a xs:=h.elim (fun z=>.inl z.2) .inr
mutual
def DV (K:Frg) (H:Hp) (W:Addr->Prop):PyData->V->Prop
 | .none,v=>v = .non
 | .bool b,v=>v = .bl b
 | .int i,v=>v = .int i
 | .str x,v=>v = .str x
 | .list ds,v=>∃a vs,v = .ref a/\LW K H W a vs/\DVs K H W ds vs
 | .tuple ds,v=>∃a vs,v = .ref a/\TW K H W a vs/\DVs K H W ds vs
 | .dict kvs,v=>∃a kvs',v = .ref a/\¬W a/\Rd H a (.dK kvs')/\DKV K H W kvs kvs'
def DVs (K:Frg) (H:Hp) (W:Addr->Prop):List PyData->List V->Prop
 | [],vs=>vs=[]
 | d::ds,vs=>∃v r,vs=v::r/\DV K H W d v/\DVs K H W ds r
def DKV (K:Frg) (H:Hp) (W:Addr->Prop):List (PyData×PyData)->List (Key×V)->Prop
 | [],vs=>vs=[]
 | (k,d)::ds,vs=>∃k' v r,vs=(k',v)::r/\k=e9 k'/\DV K H W d v/\DKV K H W ds r
end
structure Grow (K:Frg) (W W':Addr->Prop) (H H':Hp):Prop where
 keep:∀b o,H b=some o->¬W b->H' b=some o∨∃ks ob,o = .dK ks/\H' b=some (.frz ob o)
 new:∀b,W' b->W b∨H b=none
theorem Grow.refl {K:Frg}{W:Addr->Prop}{H:Hp}:Grow K W W H H:=⟨fun _ _ h _=>.inl h,fun _ h=>.inl h⟩
section
variable {K:Frg}{W W' W2:Addr->Prop}{H H' H2:Hp}
theorem Rd.grow (g:Grow K W W' H H') {a:Addr}{o:HO}(nw:¬W a) (h:Rd H a o):Rd H' a o:=by
 rcases h with h | ⟨o',h⟩
 · rcases g.keep _ _ h nw with e | ⟨ks,ob,_,e⟩
   · exact .inl e
   · exact .inr ⟨ob,e⟩
 · rcases g.keep _ _ h nw with e | ⟨ks,ob,e,_⟩
   · exact .inr ⟨o',e⟩
   · cases e
theorem Grow.kept (g:Grow K W W' H H') {a:Addr}{o:HO}(h:H a=some o) (nw:¬W a) (n:∀ks,o≠.dK ks):H' a=some o:=(g.keep a o h nw).elim id fun⟨ks,_,e,_⟩=>absurd e (n ks)
theorem Rd.ne_none {H:Hp}{a:Addr}{o:HO}(h:Rd H a o):H a≠none:=by
 rcases h with h | ⟨o',h⟩ <;> rw[h] <;> simp
theorem Rd.nw (g:Grow K W W' H H') {a:Addr}{o:HO}(nw:¬W a) (h:Rd H a o):¬W' a:=fun w=>by
 rcases g.new a w with z | z
 · exact nw z
 · exact Rd.ne_none h z
theorem LW.grow (g:Grow K W W' H H') {a:Addr}{xs:List V}(h:LW K H W a xs):LW K H' W' a xs:=h.elim (fun z=>.inl ⟨z.2.nw g z.1,z.2.grow g z.1⟩) .inr
theorem TW.grow (g:Grow K W W' H H') {a:Addr}{xs:List V}(h:TW K H W a xs):TW K H' W' a xs:=h.elim (fun z=>.inl ⟨z.2.nw g z.1,z.2.grow g z.1⟩) .inr
mutual
theorem DV.grow (g:Grow K W W' H H'):∀{d:PyData}{v:V},DV K H W d v->DV K H' W' d v
 | .none,v,h=>by unfold DV at h ⊢;exact h
 | .bool b,v,h=>by unfold DV at h ⊢;exact h
 | .int i,v,h=>by unfold DV at h ⊢;exact h
 | .str x,v,h=>by unfold DV at h ⊢;exact h
 | .list ds,v,h=>by
   unfold DV at h ⊢
   obtain⟨a,vs,e,hs,hd⟩:=h
   exact⟨a,vs,e,hs.grow g,DVs.grow g hd⟩
 | .tuple ds,v,h=>by
   unfold DV at h ⊢
   obtain⟨a,vs,e,hs,hd⟩:=h
   exact⟨a,vs,e,hs.grow g,DVs.grow g hd⟩
 | .dict kvs,v,h=>by
   unfold DV at h ⊢
   obtain⟨a,vs,e,nw,hs,hd⟩:=h
   exact⟨a,vs,e,hs.nw g nw,hs.grow g nw,DKV.grow g hd⟩
theorem DVs.grow (g:Grow K W W' H H'):∀{ds:List PyData}{vs:List V},DVs K H W ds vs->DVs K H' W' ds vs
 | [],vs,h=>by unfold DVs at h ⊢;exact h
 | d::ds,vs,h=>by
   unfold DVs at h ⊢
   obtain⟨v,r,e,h1,h2⟩:=h
   exact⟨v,r,e,DV.grow g h1,DVs.grow g h2⟩
theorem DKV.grow (g:Grow K W W' H H'):∀{ds:List (PyData×PyData)}{vs:List (Key×V)},DKV K H W ds vs->DKV K H' W' ds vs
 | [],vs,h=>by unfold DKV at h ⊢;exact h
 | (k,d)::ds,vs,h=>by
   unfold DKV at h ⊢
   obtain⟨k',v,r,e,e2,h1,h2⟩:=h
   exact⟨k',v,r,e,e2,DV.grow g h1,DKV.grow g h2⟩
end
theorem Grow.trans (a:Grow K W W' H H') (b:Grow K W' W2 H' H2):Grow K W W2 H H2:=by
 refine⟨fun x o h nw=>?_,fun x w=>?_⟩
 · have nw':¬W' x:=fun w=>by
     rcases a.new x w with z | z
     · exact nw z
     · rw[h] at z;cases z
   rcases a.keep x o h nw with e | ⟨ks,ob,e1,e2⟩
   · exact b.keep x o e nw'
   · exact .inr ⟨ks,ob,e1,b.kept e2 nw' fun _ z=>nomatch z⟩
 · rcases b.new x w with z | z1
   · exact a.new x z
   · by_cases hx:W x
     · exact .inl hx
     · refine .inr ?_
       cases e:H x with
       | none=>rfl
       | some o=>
         rcases a.keep x o e hx with q | ⟨_,_,_,q⟩ <;> (rw[q] at z1;cases z1)
theorem DVs.length:∀{ds:List PyData}{vs:List V},DVs K H W ds vs->vs.length=ds.length
 | [],vs,h=>by unfold DVs at h;subst h;rfl
 | d::ds,vs,h=>by
   unfold DVs at h
   obtain⟨v,r,e,h1,h2⟩:=h
   subst e
   simp[DVs.length h2]
theorem DVs.get:∀{ds:List PyData}{vs:List V}{i:Nat}{v:V},DVs K H W ds vs->vs[i]?=some v->∃d,ds[i]?=some d/\DV K H W d v
 | [],vs,i,v,h,e=>by unfold DVs at h;subst h;simp at e
 | d::ds,vs,i,v,h,e=>by
   unfold DVs at h
   obtain⟨u,r,e',h1,h2⟩:=h
   subst e'
   cases i with
   | zero=>simp at e;subst e;exact⟨d,rfl,h1⟩
   | succ i=>simpa using DVs.get h2 (by simpa using e)
theorem DVs.get':∀{ds:List PyData}{vs:List V}{i:Nat}{d:PyData},DVs K H W ds vs->ds[i]?=some d->∃v,vs[i]?=some v/\DV K H W d v
 | [],vs,i,v,h,e=>by simp at e
 | d::ds,vs,i,v,h,e=>by
   unfold DVs at h
   obtain⟨u,r,e',h1,h2⟩:=h
   subst e'
   cases i with
   | zero=>simp at e;subst e;exact⟨u,rfl,h1⟩
   | succ i=>simpa using DVs.get' h2 (by simpa using e)
theorem DVs.nil:DVs K H W [] []:=by unfold DVs;rfl
theorem DVs.cons {d:PyData}{v:V}{ds:List PyData}{vs:List V}(h:DV K H W d v) (t:DVs K H W ds vs):DVs K H W (d::ds) (v::vs):=by unfold DVs;exact⟨v,vs,rfl,h,t⟩
theorem DVs.append:∀{ds es:List PyData}{vs us:List V},DVs K H W ds vs->DVs K H W es us->DVs K H W (ds++es) (vs++us)
 | [],es,vs,us,h,t=>by unfold DVs at h;subst h;exact t
 | d::ds,es,vs,us,h,t=>by
   unfold DVs at h
   obtain⟨u,r,e',h1,h2⟩:=h
   subst e'
   exact DVs.cons h1 (DVs.append h2 t)
theorem DVs.set:∀{ds:List PyData}{vs:List V}{d:PyData}{v:V}(i:Nat),DVs K H W ds vs->DV K H W d v->DVs K H W (ds.set i d) (vs.set i v)
 | [],vs,d,v,i,h,t=>by unfold DVs at h;subst h;exact DVs.nil
 | e::ds,vs,d,v,i,h,t=>by
   unfold DVs at h
   obtain⟨u,r,e',h1,h2⟩:=h
   subst e'
   cases i with
   | zero=>exact DVs.cons t h2
   | succ i=>exact DVs.cons h1 (DVs.set i h2 t)
theorem DVs.drop:∀{ds:List PyData}{vs:List V}(i:Nat),DVs K H W ds vs->DVs K H W (ds.drop i) (vs.drop i)
 | ds,vs,0,h=>h
 | [],vs,i+1,h=>by unfold DVs at h;subst h;exact DVs.nil
 | e::ds,vs,i+1,h=>by
   unfold DVs at h
   obtain⟨u,r,e',h1,h2⟩:=h
   subst e'
   exact DVs.drop i h2
theorem DVs.take:∀{ds:List PyData}{vs:List V}(i:Nat),DVs K H W ds vs->DVs K H W (ds.take i) (vs.take i)
 | ds,vs,0,h=>DVs.nil
 | [],vs,i+1,h=>by unfold DVs at h;subst h;exact DVs.nil
 | e::ds,vs,i+1,h=>by
   unfold DVs at h
   obtain⟨u,r,e',h1,h2⟩:=h
   subst e'
   exact DVs.cons h1 (DVs.take i h2)
theorem LA:∀{bs:List Bool}{vs:List V},DVs K H W (bs.map PyData.bool) vs->vs=bs.map V.bl
 | [],vs,h=>by unfold DVs at h;exact h
 | b::bs,vs,h=>by
   simp only[zI] at h
   unfold DVs at h
   obtain⟨u,r,e',h1,h2⟩:=h
   unfold DV at h1
   subst e' h1
   rw[LA h2];rfl
theorem NW:∀{bs:List Str}{vs:List V},DVs K H W (bs.map a1X) vs->vs=bs.map V.str
 | [],vs,h=>by unfold DVs at h;exact h
 | b::bs,vs,h=>by
   simp only[zI] at h
   unfold DVs at h
   obtain⟨u,r,e',h1,h2⟩:=h
   unfold DV at h1
   subst e' h1
   rw[NW h2];rfl
end
section
variable {X:Cx}{pins:List (Addr×Obj)}{σ:St}{H:Hp}{s:Shared}{W:Addr->Prop}
mutual
theorem DV.reads (I:Inv X pins σ H s):∀{d:PyData}{v:V}{u:Value},d.canLay0=true->DV X.K H W d v->RelV v u->∃as,PySem.Reads s.heap u d as
 | .none,v,u,c,h,r=>by unfold DV at h;subst h;cases r;exact⟨_,.none⟩
 | .bool b,v,u,c,h,r=>by unfold DV at h;subst h;cases r;exact⟨_,.bool b⟩
 | .int i,v,u,c,h,r=>by unfold DV at h;subst h;obtain⟨t,rfl⟩:=r;exact⟨_,.int i t⟩
 | .str x,v,u,c,h,r=>by unfold DV at h;subst h;obtain⟨t,rfl⟩:=r;exact⟨_,.str x t⟩
 | .list ds,v,u,c,h,r=>by
   unfold DV at h
   obtain⟨a,vs,rfl,hs,hd⟩:=h
   cases r
   obtain⟨its,rv,⟨o,n,e,hc,_,dd⟩,_⟩:=I.list hs.sq
   obtain⟨as,q⟩:=DVs.reads I (by simpa [b7X] using c) hd rv
   exact⟨_,.list e hc dd (by simpa using q)⟩
 | .tuple ds,v,u,c,h,r=>by
   unfold DV at h
   obtain⟨a,vs,rfl,hs,hd⟩:=h
   cases r
   obtain⟨its,rv,⟨o,e,hc,n,dd⟩,_⟩:=I.tuple hs.sq
   obtain⟨as,q⟩:=DVs.reads I (by simpa [b7X] using c) hd rv
   exact⟨_,.tuple e hc dd (by simpa using q)⟩
 | .dict kvs,v,u,c,h,r=>by simp[b7X] at c
theorem DVs.reads (I:Inv X pins σ H s):∀{ds:List PyData}{vs:List V}{us:List Value},b8Q ds=true->DVs X.K H W ds vs->Vals vs us->∃as,PySem.ReadsAll s.heap us ds as
 | [],vs,us,c,h,r=>by unfold DVs at h;subst h;cases r;exact⟨_,.nil⟩
 | d::ds,vs,us,c,h,r=>by
   unfold DVs at h
   obtain⟨v,q,rfl,h1,h2⟩:=h
   cases r with
   | cons r1 r2=>
     simp[b8Q] at c
     obtain⟨as,q1⟩:=DV.reads I c.1 h1 r1
     obtain⟨bs,q2⟩:=DVs.reads I c.2 h2 r2
     exact⟨_,.cons q1 q2⟩
end
def PV (K:Frg) (neg:Bool):R2:=fun x y H Q=>∃(W:Addr->Prop) (da db:PyData),DV K H W da x/\DV K H W db y/\zH da=true/\zH db=true/\Q (.bl (if neg then !a0Z da db else a0Z da db)) H
theorem eB (hu:X.A.units+64 < cLine):OpR X (compareOp .Eq) (PV X.K false):=by
 intro pins s σ H x y v u Q I rx ry h
 obtain⟨W,da,db,h1,h2,s1,s2,q⟩:=h
 obtain⟨as,r1⟩:=h1.reads I (zG s1) rx
 obtain⟨bs,r2⟩:=h2.reads I (zG s2) ry
 exact PySem.SeqAt.compareEq_shaped r1 r2 s1 s2 hu ⟨.bl _,H,I,rfl,q⟩
theorem eF (hu:X.A.units+64 < cLine):OpR X (compareOp .NotEq) (PV X.K true):=by
 intro pins s σ H x y v u Q I rx ry h
 obtain⟨W,da,db,h1,h2,s1,s2,q⟩:=h
 obtain⟨as,r1⟩:=h1.reads I (zG s1) rx
 obtain⟨bs,r2⟩:=h2.reads I (zG s2) ry
 exact PySem.SeqAt.compareNe_shaped r1 r2 s1 s2 hu ⟨.bl _,H,I,rfl,q⟩
end
end L2
namespace DL
open PySem PySem.Spec L2
abbrev St:=L2.St
inductive MO where
 | l (ds:List PyData)
 | d (kvs:List (PyData×PyData))
 | x (C:Addr) (fs:List (Str×PyData))
abbrev Own:=Addr->Option MO
def Own.W (M:Own):Addr->Prop:=fun a=>M a≠none
def Own.put (M:Own) (a:Addr) (o:MO):Own:=fun b=>if b=a then some o else M b
def Own.del (M:Own) (a:Addr):Own:=fun b=>if b=a then none else M b
def Own.Sub (M N:Own):Prop:=∀a o,M a=some o->N a=some o
theorem zU {M:Own}{a:Addr}{o:MO}:M.put a o a=some o:=by unfold Own.put;rw[if_pos rfl]
theorem yH {M:Own}{a b:Addr}{o:MO}(h:b≠a):M.put a o b=M b:=by unfold Own.put;rw[if_neg h]
theorem yI {M:Own}{a:Addr}{o o':MO}:(M.put a o).put a o'=M.put a o':=by
 funext b;unfold Own.put;by_cases h:b=a <;> simp[h]
theorem yG {M:Own}{a:Addr}{o:MO}(h:M a=none):(M.put a o).del a=M:=by
 funext b;unfold Own.put Own.del
 by_cases e:b=a
 · subst e;simp[h]
 · simp[e]
theorem Own.put_self {M:Own}{a:Addr}{o:MO}(h:M a=some o):M.put a o=M:=by
 funext b;unfold Own.put
 by_cases e:b=a
 · subst e;simp[h]
 · simp[e]
theorem zT (M:Own):M.Sub M:=fun _ _ h=>h
theorem Own.Sub.put {M N:Own}{a:Addr}{o:MO}(h:M.Sub N) (n:M a=none):M.Sub (N.put a o):=fun b x e=>by
 rw[yH (by rintro rfl;rw[n] at e;cases e)];exact h b x e
inductive DS where
 | d (x:PyData)
 | loc (a:Addr)
 | ty (n:String)
def SI (K:Frg) (H:Hp) (M:Own):DS->V->Prop
 | .d x,v=>DV K H M.W x v
 | .loc a,v=>v = .ref a
 | .ty n,v=>v = .ty n
def SIs (K:Frg) (H:Hp) (M:Own):List DS->List V->Prop
 | [],vs=>vs=[]
 | d::ds,vs=>∃v r,vs=v::r/\SI K H M d v/\SIs K H M ds r
def XI (K:Frg) (H:Hp) (W:Addr->Prop):Option Addr->List (Str×PyData)->Prop
 | none,[]=>True
 | some d,[(n,x)]=>∃v,¬W d/\H d=some (.xd [(n,v)])/\DV K H W x v
 | _,_=>False
theorem XI.grow {K:Frg}{W W':Addr->Prop}{H H':Hp}(g:Grow K W W' H H') {dd:Option Addr}{fs:List (Str×PyData)}(h:XI K H W dd fs):XI K H' W' dd fs:=by
 unfold XI at h ⊢
 split at h
 · trivial
 · obtain⟨v,nw,a,b⟩:=h
   exact⟨v,fun z=>(g.new _ z).elim nw fun q=>by(rw[a] at q;cases q),g.kept a nw (fun _ z=>nomatch z),b.grow g⟩
 · exact h.elim
def exK (a C:Addr) (dd:Option Addr):HO:=.ext fun h=>∃o vs,h.get? a=some o/\o.cls = .ref C/\o.dict=dd/\o.data = .fields vs
def OA1 (K:Frg) (H:Hp) (M:Own) (a:Addr):MO->Prop
 | .x C fs=>∃dd,H a=some (exK a C dd)/\XI K H M.W dd fs
 | .l ds=>∃vs,H a=some (.lst vs)/\DVs K H M.W ds vs
 | .d kvs=>∃ks,H a=some (.dK ks)/\DKV K H M.W kvs ks
def OA (K:Frg) (H:Hp) (M:Own):Prop:=∀a o,M a=some o->OA1 K H M a o
structure Step (K:Frg) (M M':Own) (H H':Hp):Prop where
 grow:Grow K M.W M'.W H H'
structure Rel (K:Frg) (M:Own) (ρ:List (Option DS)) (σ:St) (H:Hp):Prop where
 own:OA K H M
 len:ρ.length=σ.length
 slot:∀(i:Nat) x,ρ[i]?=some (some x)->∃v,σ[i]?=some (some v)/\SI K H M x v
section
variable {K:Frg}{M M' M2:Own}{H H' H2:Hp}{ρ:List (Option DS)}{σ:St}
theorem Step.refl:Step K M M H H:=⟨Grow.refl⟩
theorem Step.trans (a:Step K M M' H H') (b:Step K M' M2 H' H2):Step K M M2 H H2:=⟨a.grow.trans b.grow⟩
theorem SI.step (st:Step K M M' H H'):∀{x:DS}{v:V},SI K H M x v->SI K H' M' x v
 | .d _,_,h=>DV.grow st.grow h
 | .loc _,_,h=>h
 | .ty _,_,h=>h
theorem Rel.step (R:Rel K M ρ σ H) (oa:OA K H' M') (st:Step K M M' H H'):Rel K M' ρ σ H':=
 ⟨oa,R.len,fun i x e=>let ⟨v,h1,h2⟩:=R.slot i x e;⟨v,h1,h2.step st⟩⟩
theorem Rel.set (R:Rel K M ρ σ H) {x:DS}{v:V}(h:SI K H M x v) (i:Nat):Rel K M (ρ.set i (some x)) (σ.set i (some v)) H:=by
 refine⟨R.own,by rw[b2W,b2W];exact R.len,fun j y e=>?_⟩
 rw[b9Q] at e ⊢
 by_cases hij:i=j
 · rw[if_pos hij] at e ⊢
   subst hij
   by_cases hl:i < ρ.length
   · rw[if_pos hl] at e
     cases e
     rw[if_pos (by rw[← R.len];exact hl)]
     exact⟨v,rfl,h⟩
   · rw[if_neg hl] at e;cases e
 · rw[if_neg hij] at e ⊢
   exact R.slot j y e
theorem OA.none (oa:OA K H M) {p:Addr}(h:H p=b5J):M p=b5J:=by
 cases e:M p with
 | none=>rfl
 | some o=>
   have:=oa p o e
   cases o with
   | l ds=>obtain⟨vs,q,_⟩:=this;rw[h] at q;cases q
   | d kvs=>obtain⟨vs,q,_⟩:=this;rw[h] at q;cases q
   | x C fs=>obtain⟨vs,q,_⟩:=this;rw[h] at q;cases q
theorem AW {p:Addr}{o:HO}(W:Addr->Prop) (h:H p=b5J):Grow K W W H (upd H p o):=
 ⟨fun b u e _=>.inl (by rw[AF (AV e h)];exact e),fun _ w=>.inl w⟩
theorem OA.grow (oa:OA K H M) (g:Grow K M.W M.W H H') (hk:∀a o,M a=some o->H' a=H a):OA K H' M:=fun a o e=>by
 have q:=oa a o e
 cases o with
 | l ds=>obtain⟨vs,q1,q2⟩:=q;exact⟨vs,by rw[hk a _ e];exact q1,q2.grow g⟩
 | d kvs=>obtain⟨vs,q1,q2⟩:=q;exact⟨vs,by rw[hk a _ e];exact q1,q2.grow g⟩
 | x C fs=>obtain⟨vs,q1,q2⟩:=q;exact⟨vs,by rw[hk a _ e];exact q1,q2.grow g⟩
theorem OA.new {p:Addr}{o:HO}(oa:OA K H M) (h:H p=b5J):OA K (upd H p o) M:=oa.grow (AW _ h) fun a x e=>by
 rw[AF (by rintro rfl;rw[oa.none h] at e;cases e)]
theorem YX {p:Addr}{vs:List V}{ds:List PyData}(oa:OA K H M) (h:H p=b5J) (hd:DVs K H M.W ds vs) :
   OA K (upd H p (.lst vs)) (M.put p (.l ds))/\Step K M (M.put p (.l ds)) H (upd H p (.lst vs)):=by
 have hM:=oa.none h
 have g:Grow K M.W (M.put p (.l ds)).W H (upd H p (.lst vs)):=⟨fun b u e _=>.inl (by rw[AF (AV e h)];exact e),fun b w=>by
   by_cases hb:b=p
   · subst hb;exact .inr h
   · left;unfold Own.W at w ⊢;rw[yH hb] at w;exact w⟩
 refine⟨fun a o e=>?_,⟨g⟩⟩
 · by_cases ha:a=p
   · subst ha;rw[zU] at e;cases e;exact⟨vs,AG,hd.grow g⟩
   · rw[yH ha] at e
     have q:=oa a o e
     cases o with
     | l ds=>obtain⟨vs,q1,q2⟩:=q;exact⟨vs,by rw[AF ha];exact q1,q2.grow g⟩
     | d kvs=>obtain⟨vs,q1,q2⟩:=q;exact⟨vs,by rw[AF ha];exact q1,q2.grow g⟩
     | x C fs=>obtain⟨vs,q1,q2⟩:=q;exact⟨vs,by rw[AF ha];exact q1,q2.grow g⟩
theorem LB {p:Addr}{vs':List V}{ds':List PyData}{o:MO}(oa:OA K H M) (h:M p=some o) (hd:DVs K H M.W ds' vs') :
   OA K (upd H p (.lst vs')) (M.put p (.l ds'))/\Step K M (M.put p (.l ds')) H (upd H p (.lst vs')):=by
 have hw:∀b,(M.put p (.l ds')).W b->M.W b:=fun b w=>by
   unfold Own.W at w ⊢
   by_cases hb:b=p
   · subst hb;rw[h];simp
   · rw[yH hb] at w;exact w
 have g:Grow K M.W (M.put p (.l ds')).W H (upd H p (.lst vs')):=⟨fun b u e nw=>.inl (by
   rw[AF (by rintro rfl;exact nw (by unfold Own.W;rw[h];simp))];exact e),fun b w=>.inl (hw b w)⟩
 refine⟨fun a o e=>?_,⟨g⟩⟩
 · by_cases ha:a=p
   · subst ha;rw[zU] at e;cases e;exact⟨vs',AG,hd.grow g⟩
   · rw[yH ha] at e
     have q:=oa a o e
     cases o with
     | l ds=>obtain⟨vs,q1,q2⟩:=q;exact⟨vs,by rw[AF ha];exact q1,q2.grow g⟩
     | d kvs=>obtain⟨vs,q1,q2⟩:=q;exact⟨vs,by rw[AF ha];exact q1,q2.grow g⟩
     | x C fs=>obtain⟨vs,q1,q2⟩:=q;exact⟨vs,by rw[AF ha];exact q1,q2.grow g⟩
theorem B6 (hs:M'.Sub M):Grow K M.W M'.W H H:=⟨fun _ _ e _=>.inl e,fun b w=>.inl (by
 unfold Own.W at w ⊢
 cases e:M' b with
 | none=>exact absurd e w
 | some o=>rw[hs b o e];simp)⟩
theorem OA.sub (oa:OA K H M) (hs:M'.Sub M):OA K H M':=fun a o e=>by
 have q:=oa a o (hs a o e)
 cases o with
 | l ds=>obtain⟨vs,q1,q2⟩:=q;exact⟨vs,q1,q2.grow (B6 hs)⟩
 | d kvs=>obtain⟨vs,q1,q2⟩:=q;exact⟨vs,q1,q2.grow (B6 hs)⟩
 | x C fs=>obtain⟨vs,q1,q2⟩:=q;exact⟨vs,q1,q2.grow (B6 hs)⟩
theorem SI.sub (hs:M'.Sub M):∀{x:DS}{v:V},SI K H M x v->SI K H M' x v
 | .d _,_,h=>DV.grow (B6 hs) h
 | .loc _,_,h=>h
 | .ty _,_,h=>h
end
def DE (K:Frg) (t:TE) (ρ:List (Option DS)) (M:Own) (Q:DS->Own->Prop):Prop:=
 ∀(σ:St) (H:Hp) (QQ:VK),Rel K M ρ σ H->(∀v H' x M',OA K H' M'->SI K H' M' x v->Step K M M' H H'->Q x M'->QQ v H')->t σ H QQ
def DT (K:Frg) (t:TT) (ρ:List (Option DS)) (M:Own) (Q:Bool->Own->Prop):Prop:=
 ∀(σ:St) (H:Hp) (QQ:Bool->Hp->Prop),Rel K M ρ σ H->(∀b H' M',OA K H' M'->Step K M M' H H'->Q b M'->QQ b H')->t σ H QQ
def DA (K:Frg) (t:TA) (ρ:List (Option DS)) (M:Own) (Q:List DS->Own->Prop):Prop:=
 ∀(σ:St) (H:Hp) (QQ:List V->Hp->Prop),Rel K M ρ σ H->(∀vs H' xs M',OA K H' M'->SIs K H' M' xs vs->Step K M M' H H'->Q xs M'->QQ vs H')->t σ H QQ
def DP (K:Frg) (t:TO) (ρ:List (Option DS)) (M:Own) (Q:Option Int->Own->Prop):Prop:=
 ∀(σ:St) (H:Hp) (QQ:Option Int->Hp->Prop),Rel K M ρ σ H->(∀b H' M',OA K H' M'->Step K M M' H H'->Q b M'->QQ b H')->t σ H QQ
structure EndsD where
 nx:List (Option DS)->Own->Prop
 rt:DS->Own->Prop
 bk:List (Option DS)->Own->Prop:=fun _ _=>False
 ct:List (Option DS)->Own->Prop:=fun _ _=>False
def DSt (K:Frg) (t:TS) (ρ:List (Option DS)) (M:Own) (D:EndsD):Prop:=
 ∀(σ:St) (H:Hp) (E:Ends),Rel K M ρ σ H->(∀ρ' M' σ' H',Rel K M' ρ' σ' H'->Step K M M' H H'->D.nx ρ' M'->E.nx σ' H')->(∀v H' x M',OA K H' M'->SI K H' M' x v->Step K M M' H H'->D.rt x M'->E.rt v H') ->
   (∀ρ' M' σ' H',Rel K M' ρ' σ' H'->Step K M M' H H'->D.bk ρ' M'->E.bk σ' H')->(∀ρ' M' σ' H',Rel K M' ρ' σ' H'->Step K M M' H H'->D.ct ρ' M'->E.ct σ' H')->t E σ H
def D1 (K:Frg) (r:V->Hp->VK->Prop) (x:DS) (M:Own) (Q:DS->Own->Prop):Prop:=
 ∀(H:Hp) (v:V) (QQ:VK),OA K H M->SI K H M x v->(∀w H' z M',OA K H' M'->SI K H' M' z w->Step K M M' H H'->Q z M'->QQ w H')->r v H QQ
def D2 (K:Frg) (r:R2) (x y:DS) (M:Own) (Q:DS->Own->Prop):Prop:=
 ∀(H:Hp) (v u:V) (QQ:VK),OA K H M->SI K H M x v->SI K H M y u->(∀w H' z M',OA K H' M'->SI K H' M' z w->Step K M M' H H'->Q z M'->QQ w H')->r v u H QQ
def DR (K:Frg) (r:List V->Hp->VK->Prop) (xs:List DS) (M:Own) (Q:DS->Own->Prop):Prop:=
 ∀(H:Hp) (vs:List V) (QQ:VK),OA K H M->SIs K H M xs vs->(∀w H' z M',OA K H' M'->SI K H' M' z w->Step K M M' H H'->Q z M'->QQ w H')->r vs H QQ
def DM (K:Frg) (r:V->List V->Hp->VK->Prop) (x:DS) (xs:List DS) (M:Own) (Q:DS->Own->Prop):Prop:=
 ∀(H:Hp) (v:V) (vs:List V) (QQ:VK),OA K H M->SI K H M x v->SIs K H M xs vs->(∀w H' z M',OA K H' M'->SI K H' M' z w->Step K M M' H H'->Q z M'->QQ w H')->r v vs H QQ
def DSl (K:Frg) (r:V->Option Int->Option Int->Hp->VK->Prop) (x:DS) (lo hi:Option Int) (M:Own) (Q:DS->Own->Prop):Prop:=
 ∀(H:Hp) (v:V) (QQ:VK),OA K H M->SI K H M x v->(∀w H' z M',OA K H' M'->SI K H' M' z w->Step K M M' H H'->Q z M'->QQ w H')->r v lo hi H QQ
def DTy (K:Frg) (T:String) (x:DS) (M:Own):Prop:=∀(H:Hp) (v:V),OA K H M->SI K H M x v->tyV K T v H
section
variable {K:Frg}{ρ:List (Option DS)}{M:Own}{Q:DS->Own->Prop}{QB:Bool->Own->Prop}{ta tb tc:TE}{tA tB':TT}{r r':R2}
theorem YY {t:TE}{Q':DS->Own->Prop}(h:DE K t ρ M Q) (hq:∀x M',Q x M'->Q' x M'):DE K t ρ M Q':=fun σ H QQ R k=>h σ H QQ R fun v H' x M' a b c q=>k v H' x M' a b c (hq x M' q)
theorem qJ {i:Nat}{x:DS}(e:ρ[i]?=some (some x)) (h:Q x M):DE K (aD i) ρ M Q:=fun σ H QQ R k=>by
 obtain⟨v,h1,h2⟩:=R.slot i x e
 exact⟨v,h1,k v H x M R.own h2 Step.refl h⟩
theorem qK {i:Int}(h:Q (.d (.int i)) M):DE K (tC (.int i)) ρ M Q:=fun σ H QQ R k=>k _ H (.d (.int i)) M R.own (by unfold SI DV;rfl) Step.refl h
theorem tW {i:Bool}(h:Q (.d (.bool i)) M):DE K (tC (.bl i)) ρ M Q:=fun σ H QQ R k=>k _ H (.d (.bool i)) M R.own (by unfold SI DV;rfl) Step.refl h
theorem qL {i:Str}(h:Q (.d (.str i)) M):DE K (tC (.str i)) ρ M Q:=fun σ H QQ R k=>k _ H (.d (.str i)) M R.own (by unfold SI DV;rfl) Step.refl h
theorem qM (h:Q (.d .none) M):DE K (tC .non) ρ M Q:=fun σ H QQ R k=>k _ H (.d .none) M R.own (by unfold SI DV;rfl) Step.refl h
theorem tX {n:String}(h:Q (.ty n) M):DE K (tC (.ty n)) ρ M Q:=fun σ H QQ R k=>k _ H (.ty n) M R.own rfl Step.refl h
theorem tY (h:DE K ta ρ M fun x M1=>DE K tb ρ M1 fun y M2=>D2 K r x y M2 Q):DE K (tOp r ta tb) ρ M Q:=fun σ H QQ R k=>
 h σ H _ R fun v H1 x M1 o1 s1 t1 h1=>h1 σ H1 _ (R.step o1 t1) fun u H2 y M2 o2 s2 t2 h2=>h2 H2 v u QQ o2 (s1.step t2) s2 fun w H3 z M3 o3 s3 t3 q=>k w H3 z M3 o3 s3 ((t1.trans t2).trans t3) q
theorem tZ {r:V->Hp->VK->Prop}(h:DE K ta ρ M fun x M1=>D1 K r x M1 Q):DE K (tUn r ta) ρ M Q:=fun σ H QQ R k=>
 h σ H _ R fun v H1 x M1 o1 s1 t1 h1=>h1 H1 v QQ o1 s1 fun w H3 z M3 o3 s3 t3 q=>k w H3 z M3 o3 s3 (t1.trans t3) q
theorem eG (h:DE K ta ρ M fun x M1=>DE K tb ρ M1 fun y M2=>D2 K r x y M2 fun z M3=>∃c,z = .d (.bool c)/\if c=true then DE K tc ρ M3 (fun w M4=>D2 K r' y w M4 Q) else Q (.d (.bool false)) M3) :
   DE K (WR r r' ta tb tc) ρ M Q:=fun σ H QQ R k=>
 h σ H _ R fun v H1 x M1 o1 s1 t1 h1=>h1 σ H1 _ (R.step o1 t1) fun u H2 y M2 o2 s2 t2 h2=>h2 H2 v u _ o2 (s1.step t2) s2 fun w H3 z M3 o3 s3 t3 q=>by
   obtain⟨c,rfl,q⟩:=q
   unfold SI DV at s3
   refine⟨c,s3,?_⟩
   cases c with
   | false=>
     rw[if_neg nft] at q ⊢
     exact k _ H3 _ M3 o3 (by unfold SI DV;rfl) ((t1.trans t2).trans t3) q
   | true=>
     rw[if_pos rfl] at q ⊢
     exact q σ H3 _ (R.step o3 ((t1.trans t2).trans t3)) fun w4 H4 z4 M4 o4 s4 t4 h4=>h4 H4 u w4 QQ o4 (s2.step (t3.trans t4)) s4 fun w5 H5 z5 M5 o5 s5 t5 q5=>k w5 H5 z5 M5 o5 s5 ((((t1.trans t2).trans t3).trans t4).trans t5) q5
theorem kQ (h:DE K ta ρ M fun x M1=>∃c,x = .d (.bool c)/\QB c M1):DT K (dD ta) ρ M QB:=fun σ H QQ R k=>
 h σ H _ R fun v H1 x M1 o1 s1 t1 h1=>by
   obtain⟨c,rfl,q⟩:=h1
   unfold SI DV at s1
   exact⟨c,s1,k c H1 M1 o1 t1 q⟩
theorem vJ (h:DE K ta ρ M fun x M1=>∃c,x = .d (.bool c)/\QB c M1):DT K (L2.tB ta) ρ M QB:=fun σ H QQ R k=>
 h σ H _ R fun v H1 x M1 o1 s1 t1 h1=>by
   obtain⟨c,rfl,q⟩:=h1
   unfold SI DV at s1
   exact⟨c,s1,k c H1 M1 o1 t1 q⟩
theorem qN (h:DT K tA ρ M fun c M1=>if c=true then DT K tB' ρ M1 QB else QB false M1):DT K (sV tA tB') ρ M QB:=fun σ H QQ R k=>
 h σ H _ R fun c H1 M1 o1 t1 h1=>by
   cases c with
   | false=>rw[if_neg nft] at h1 ⊢;exact k _ H1 M1 o1 t1 h1
   | true=>rw[if_pos rfl] at h1 ⊢;exact h1 σ H1 QQ (R.step o1 t1) fun b H2 M2 o2 t2 q=>k b H2 M2 o2 (t1.trans t2) q
theorem u0 (h:DT K tA ρ M fun c M1=>if c=true then QB true M1 else DT K tB' ρ M1 QB):DT K (tOr tA tB') ρ M QB:=fun σ H QQ R k=>
 h σ H _ R fun c H1 M1 o1 t1 h1=>by
   cases c with
   | true=>rw[if_pos rfl] at h1 ⊢;exact k _ H1 M1 o1 t1 h1
   | false=>rw[if_neg nft] at h1 ⊢;exact h1 σ H1 QQ (R.step o1 t1) fun b H2 M2 o2 t2 q=>k b H2 M2 o2 (t1.trans t2) q
theorem qO (h:DT K tA ρ M fun c M1=>QB (!c) M1):DT K (sW tA) ρ M QB:=fun σ H QQ R k=>h σ H _ R fun c H1 M1 o1 t1 h1=>k _ H1 M1 o1 t1 h1
theorem qP (h:QB true M):DT K tV ρ M QB:=fun σ H QQ R k=>k true H M R.own Step.refl h
theorem qQ (h:DE K ta ρ M fun x M1=>∃c,x = .d (.bool c)/\if c=true then DE K tb ρ M1 Q else Q (.d (.bool false)) M1):DE K (nP ta tb) ρ M Q:=fun σ H QQ R k=>
 h σ H _ R fun v H1 x M1 o1 s1 t1 h1=>by
   obtain⟨c,rfl,q⟩:=h1
   unfold SI DV at s1
   refine⟨c,s1,?_⟩
   cases c with
   | false=>rw[if_neg nft] at q ⊢;exact k _ H1 _ M1 o1 (by unfold SI DV;rfl) t1 q
   | true=>rw[if_pos rfl] at q ⊢;exact q σ H1 QQ (R.step o1 t1) fun w H2 z M2 o2 s2 t2 q=>k w H2 z M2 o2 s2 (t1.trans t2) q
theorem u4 (h:DE K ta ρ M fun x M1=>∃c,x = .d (.bool c)/\if c=true then Q (.d (.bool true)) M1 else DE K tb ρ M1 Q):DE K (sY ta tb) ρ M Q:=fun σ H QQ R k=>
 h σ H _ R fun v H1 x M1 o1 s1 t1 h1=>by
   obtain⟨c,rfl,q⟩:=h1
   unfold SI DV at s1
   refine⟨c,s1,?_⟩
   cases c with
   | true=>rw[if_pos rfl] at q ⊢;exact k _ H1 _ M1 o1 (by unfold SI DV;rfl) t1 q
   | false=>rw[if_neg nft] at q ⊢;exact q σ H1 QQ (R.step o1 t1) fun w H2 z M2 o2 s2 t2 q=>k w H2 z M2 o2 s2 (t1.trans t2) q
theorem qR (h:DE K ta ρ M fun x M1=>∃c,x = .d (.bool c)/\Q (.d (.bool (!c))) M1):DE K (nQ ta) ρ M Q:=fun σ H QQ R k=>
 h σ H _ R fun v H1 x M1 o1 s1 t1 h1=>by
   obtain⟨c,rfl,q⟩:=h1
   unfold SI DV at s1
   exact⟨c,s1,k _ H1 _ M1 o1 (by unfold SI DV;rfl) t1 q⟩
theorem u5 (h:DT K tA ρ M fun c M1=>if c=true then DE K ta ρ M1 Q else DE K tb ρ M1 Q):DE K (tIf tA ta tb) ρ M Q:=fun σ H QQ R k=>
 h σ H _ R fun c H1 M1 o1 t1 h1=>by
   cases c with
   | true=>rw[if_pos rfl] at h1 ⊢;exact h1 σ H1 QQ (R.step o1 t1) fun w H2 z M2 o2 s2 t2 q=>k w H2 z M2 o2 s2 (t1.trans t2) q
   | false=>rw[if_neg nft] at h1 ⊢;exact h1 σ H1 QQ (R.step o1 t1) fun w H2 z M2 o2 s2 t2 q=>k w H2 z M2 o2 s2 (t1.trans t2) q
variable {QL:List DS->Own->Prop}{tl:TA}
theorem qS (h:QL [] M):DA K tK ρ M QL:=fun σ H QQ R k=>k [] H [] M R.own rfl Step.refl h
theorem kR (h:DE K ta ρ M fun x M1=>DA K tl ρ M1 fun xs M2=>QL (x::xs) M2):DA K (nT ta tl) ρ M QL:=fun σ H QQ R k=>
 h σ H _ R fun v H1 x M1 o1 s1 t1 h1=>h1 σ H1 _ (R.step o1 t1) fun vs H2 xs M2 o2 s2 t2 q=>k (v::vs) H2 (x::xs) M2 o2 ⟨v,vs,rfl,s1.step t2,s2⟩ (t1.trans t2) q
def PX:List DS->Option (List PyData)
 | []=>some []
 | .d x::r=>match PX r with
   | some l=>some (x::l)
   | none=>none
 | .loc _::_=>none
 | .ty _::_=>none
theorem SIs.data {H:Hp}:∀{xs:List DS}{ds:List PyData}{vs:List V},PX xs=some ds->SIs K H M xs vs->DVs K H M.W ds vs
 | [],ds,vs,e,h=>by cases e;cases h;exact DVs.nil
 | .d x::r,ds,vs,e,⟨v,q,e2,h1,h2⟩=>by
   cases e3:PX r with
   | none=>rw[PX,e3] at e;cases e
   | some es=>
     rw[PX,e3] at e;cases e
     subst e2
     exact DVs.cons h1 (SIs.data e3 h2)
 | .loc _::_,ds,vs,e,_=>by cases e
 | .ty _::_,ds,vs,e,_=>by cases e
theorem SIs.length {H:Hp}:∀{xs:List DS}{vs:List V},SIs K H M xs vs->vs.length=xs.length
 | [],vs,h=>by cases h;rfl
 | _::r,vs,⟨v,q,e2,h1,h2⟩=>by subst e2;simp[SIs.length h2]
theorem qT (h:DA K tl ρ M fun xs M1=>∃ds,PX xs=some ds/\ds.length<=sizeLine/\Q (.d (.tuple ds)) M1):DE K (tL tl) ρ M Q:=fun σ H QQ R k=>
 h σ H _ R fun vs H1 xs M1 o1 s1 t1 h1=>by
   obtain⟨ds,e,hz,q⟩:=h1
   have hd:=s1.data e
   refine⟨by rw[hd.length];exact hz,fun p hp=>?_⟩
   have g:Grow K M1.W M1.W H1 (upd H1 p (.tup vs)):=AW _ hp
   refine k _ _ (.d (.tuple ds)) M1 (o1.new hp) ?_ (t1.trans ⟨g⟩) q
   unfold SI DV
   exact⟨p,vs,rfl,.inl ⟨fun w=>w (o1.none hp),.inl AG⟩,hd.grow g⟩
theorem BS (h:DA K tl ρ M fun xs M1=>∃ds,PX xs=some ds/\ds.length<=sizeLine/\Q (.d (.list ds)) M1):DE K (pS tl) ρ M Q:=fun σ H QQ R k=>
 h σ H _ R fun vs H1 xs M1 o1 s1 t1 h1=>by
   obtain⟨ds,e,hz,q⟩:=h1
   have hd:=s1.data e
   refine⟨by rw[hd.length];exact hz,fun p hp=>?_⟩
   have g:Grow K M1.W M1.W H1 (upd H1 p (.lst vs)):=AW _ hp
   refine k _ _ (.d (.list ds)) M1 (o1.new hp) ?_ (t1.trans ⟨g⟩) q
   unfold SI DV
   exact⟨p,vs,rfl,.inl ⟨fun w=>w (o1.none hp),.inl AG⟩,hd.grow g⟩
theorem N9 (h:DA K tl ρ M fun xs M1=>∃ds,PX xs=some ds/\ds.length<=sizeLine/\∀p,M1 p=none->Q (.loc p) (M1.put p (.l ds))):DE K (pS tl) ρ M Q:=fun σ H QQ R k=>
 h σ H _ R fun vs H1 xs M1 o1 s1 t1 h1=>by
   obtain⟨ds,e,hz,q⟩:=h1
   have hd:=s1.data e
   refine⟨by rw[hd.length];exact hz,fun p hp=>?_⟩
   obtain⟨a,b⟩:=YX o1 hp hd
   exact k _ _ (.loc p) _ a rfl (t1.trans b) (q p (o1.none hp))
theorem u6 {r:List V->Hp->VK->Prop}(h:DA K tl ρ M fun xs M1=>DR K r xs M1 Q):DE K (tCB r tl) ρ M Q:=fun σ H QQ R k=>
 h σ H _ R fun vs H1 xs M1 o1 s1 t1 h1=>h1 H1 vs QQ o1 s1 fun w H2 z M2 o2 s2 t2 q=>k w H2 z M2 o2 s2 (t1.trans t2) q
structure FSp where
 pre:List DS->Own->Prop
 post:List DS->Own->DS->Own->Prop
def spD (K:Frg) (n:Nat) (S:FSp):Sp:=fun vs H Q _=>∃xs M,xs.length=n/\OA K H M/\SIs K H M xs vs/\S.pre xs M/\∀x M' v H',S.post xs M x M'->Step K M M' H H'->OA K H' M'->SI K H' M' x v->Q v H'
theorem YZ {n:Nat}{S:FSp}:∀vs H Q E,spD K n S vs H Q E->vs.length=n:=fun vs H Q E ⟨xs,M,hl,_,h,_⟩=>by rw[h.length,hl]
theorem kS {n:Nat}{S:FSp}{E:XK}(h:DA K tl ρ M fun xs M1=>xs.length=n/\S.pre xs M1/\∀x M',S.post xs M1 x M'->Q x M'):DE K (YN (spD K n S) [] E tl) ρ M Q:=fun σ H QQ R k=>
 h σ H _ R fun vs H1 xs M1 o1 s1 t1 ⟨h0,h1,h2⟩=>by
   show spD K n S (vs++[]) H1 QQ E
   rw[a8X]
   exact⟨xs,M1,h0,o1,s1,h1,fun x M' v H' p st oa si=>k v H' x M' oa si (t1.trans st) (h2 x M' p)⟩
theorem Z0 {T:String}{r:V->List V->Hp->VK->Prop}(h:DE K ta ρ M fun x M1=>DTy K T x M1/\DA K tl ρ M1 fun xs M2=>DM K r x xs M2 Q):DE K (tBM K T r ta tl) ρ M Q:=fun σ H QQ R k=>
 h σ H _ R fun v H1 x M1 o1 s1 t1 ⟨h0,h1⟩=>⟨h0 H1 v o1 s1,h1 σ H1 _ (R.step o1 t1) fun vs H2 xs M2 o2 s2 t2 h2=>h2 H2 v vs QQ o2 (s1.step t2) s2 fun w H3 z M3 o3 s3 t3 q=>k w H3 z M3 o3 s3 ((t1.trans t2).trans t3) q⟩
theorem kT {QP:Option Int->Own->Prop}(h:QP none M):DP K YQ ρ M QP:=fun σ H QQ R k=>k _ H M R.own Step.refl h
theorem kU {QP:Option Int->Own->Prop}(h:DE K ta ρ M fun x M1=>∃i,x = .d (.int i)/\QP (some i) M1):DP K (nV ta) ρ M QP:=fun σ H QQ R k=>
 h σ H _ R fun v H1 x M1 o1 s1 t1 h1=>by
   obtain⟨i,rfl,q⟩:=h1
   unfold SI DV at s1
   exact⟨i,s1,k _ H1 M1 o1 t1 q⟩
theorem u7 {r:V->Option Int->Option Int->Hp->VK->Prop}{tl th:TO}(h:DE K ta ρ M fun x M1=>DP K tl ρ M1 fun lo M2=>DP K th ρ M2 fun hi M3=>DSl K r x lo hi M3 Q):DE K (tSl r ta tl th) ρ M Q:=fun σ H QQ R k=>
 h σ H _ R fun v H1 x M1 o1 s1 t1 h1=>h1 σ H1 _ (R.step o1 t1) fun lo H2 M2 o2 t2 h2=>h2 σ H2 _ (R.step o2 (t1.trans t2)) fun hi H3 M3 o3 t3 h3=>h3 H3 v QQ o3 (s1.step (t2.trans t3)) fun w H4 z M4 o4 s4 t4 q=>k w H4 z M4 o4 s4 (((t1.trans t2).trans t3).trans t4) q
variable {D:EndsD}{t u:TS}
theorem Z1 (h:D.nx ρ M):DSt K nR ρ M D:=fun σ H E R k1 _ _ _=>k1 ρ M σ H R Step.refl h
theorem eI (h:DE K ta ρ M D.rt):DSt K (t7 ta) ρ M D:=fun σ H E R _ k2 _ _=>h σ H E.rt R fun v H' x M' a b c q=>k2 v H' x M' a b c q
theorem Z2 (h:DE K ta ρ M fun _ M1=>D.nx ρ M1):DSt K (cX ta) ρ M D:=fun σ H E R k1 _ _ _=>h σ H _ R fun v H' x M' a b c q=>k1 ρ M' σ H' (R.step a c) c q
theorem eJ {i:Nat}(h:DE K ta ρ M fun x M1=>D.nx (ρ.set i (some x)) M1):DSt K (jY ta (NL i)) ρ M D:=fun σ H E R k1 _ _ _=>
 h σ H _ R fun v H' x M' a b c q=>k1 _ M' _ H' ((R.step a c).set b i) c q
theorem Z3 {i:Nat}(h:DE K ta ρ M fun x M1=>D.nx (ρ.set i (some x)) M1):DSt K (fun D σ H=>ta σ H fun v H'=>D.nx (σ.set i (some v)) H') ρ M D:=fun σ H E R k1 _ _ _=>
 h σ H _ R fun v H' x M' a b c q=>k1 _ M' _ H' ((R.step a c).set b i) c q
theorem eL (h:DSt K t ρ M { D with nx:=fun ρ1 M1=>DSt K u ρ1 M1 D }):DSt K (jT t u) ρ M D:=fun σ H E R k1 k2 k3 k4=>by
 refine h σ H { E with nx:=fun σ' H'=>u E σ' H' } R (fun ρ1 M1 σ1 H1 R1 t1 q=>?_) k2 k3 k4
 exact q σ1 H1 E R1 (fun a b c d e f g=>k1 a b c d e (t1.trans f) g) (fun a b c d e f g q=>k2 a b c d e f (t1.trans g) q) (fun a b c d e f g=>k3 a b c d e (t1.trans f) g) (fun a b c d e f g=>k4 a b c d e (t1.trans f) g)
theorem u8 (h:DT K tA ρ M fun c M1=>if c=true then DSt K t ρ M1 D else DSt K u ρ M1 D):DSt K (pE tA t u) ρ M D:=fun σ H E R k1 k2 k3 k4=>
 h σ H _ R fun c H1 M1 o1 t1 h1=>by
   have go:∀{w:TS},DSt K w ρ M1 D->w E σ H1:=fun q=>q σ H1 E (R.step o1 t1) (fun a b c d e f g=>k1 a b c d e (t1.trans f) g) (fun a b c d e f g q=>k2 a b c d e f (t1.trans g) q) (fun a b c d e f g=>k3 a b c d e (t1.trans f) g) (fun a b c d e f g=>k4 a b c d e (t1.trans f) g)
   cases c with
   | true=>rw[if_pos rfl] at h1 ⊢;exact go h1
   | false=>rw[if_neg nft] at h1 ⊢;exact go h1
theorem kW {D':EndsD}(h:DSt K t ρ M D) (h1:∀ρ' M',D.nx ρ' M'->D'.nx ρ' M') (h2:∀x M',D.rt x M'->D'.rt x M') (h3:∀ρ' M',D.bk ρ' M'->D'.bk ρ' M') (h4:∀ρ' M',D.ct ρ' M'->D'.ct ρ' M'):DSt K t ρ M D':=
 fun σ H E R k1 k2 k3 k4=>h σ H E R (fun a b c d e f g=>k1 a b c d e f (h1 _ _ g)) (fun a b c d e f g q=>k2 a b c d e f g (h2 _ _ q)) (fun a b c d e f g=>k3 a b c d e f (h3 _ _ g)) (fun a b c d e f g=>k4 a b c d e f (h4 _ _ g))
theorem aQ {i:Nat}{a:Addr}{ds:List PyData}(e:ρ[i]?=some (some (.loc a))) (m:M a=some (.l ds)) (h:DSt K t (ρ.set i (some (.d (.list ds)))) (M.del a) D):DSt K t ρ M D:=fun σ H E R k1 k2 k3 k4=>by
 have hs:(M.del a).Sub M:=fun b o q=>by
   unfold Own.del at q
   by_cases hb:b=a
   · rw[if_pos hb] at q;cases q
   · rw[if_neg hb] at q;exact q
 have st:Step K M (M.del a) H H:=⟨B6 hs⟩
 obtain⟨v,e1,e2⟩:=R.slot i _ e
 obtain⟨vs,q1,q2⟩:=R.own a _ m
 have R1:Rel K (M.del a) ρ σ H:=R.step (R.own.sub hs) st
 have R2:=R1.set (x:=.d (.list ds)) (v:=v) (by
   unfold SI DV
   refine⟨a,vs,e2,.inl ⟨fun w=>w (by unfold Own.del;rw[if_pos rfl]),.inl q1⟩,q2.grow (B6 hs)⟩) i
 have e3:σ.set i (some v)=σ:=by
   apply b9X
   intro j
   rw[b9Q]
   by_cases hij:i=j
   · subst hij
     rw[if_pos rfl,e1]
     split
     · rfl
     · rename_i hl
       rw[a7K (by omega)] at e1;cases e1
   · rw[if_neg hij]
 rw[e3] at R2
 exact h σ H E R2 (fun a b c d e f g=>k1 a b c d e (st.trans f) g) (fun a b c d e f g q=>k2 a b c d e f (st.trans g) q) (fun a b c d e f g=>k3 a b c d e (st.trans f) g) (fun a b c d e f g=>k4 a b c d e (st.trans f) g)
end
end DL
namespace DL
open PySem PySem.Spec L2
section
variable {K:Frg}{ρ:List (Option DS)}{M:Own}{Q:DS->Own->Prop}{H:Hp}
theorem BF {i:Int}{v:V}(h:SI K H M (.d (.int i)) v):v = .int i:=by unfold SI DV at h;exact h
theorem oF {i:Bool}{v:V}(h:SI K H M (.d (.bool i)) v):v = .bl i:=by unfold SI DV at h;exact h
theorem B7 {i:Str}{v:V}(h:SI K H M (.d (.str i)) v):v = .str i:=by unfold SI DV at h;exact h
theorem eO {v:V}(h:SI K H M (.d .none) v):v = .non:=by unfold SI DV at h;exact h
theorem BP {i:Int}:SI K H M (.d (.int i)) (.int i):=by unfold SI DV;rfl
theorem AJ {i:Bool}:SI K H M (.d (.bool i)) (.bl i):=by unfold SI DV;rfl
theorem FO {i:Str}:SI K H M (.d (.str i)) (.str i):=by unfold SI DV;rfl
theorem u9 {g:Int->Int->Int}{i j:Int}(q:Q (.d (.int (g i j))) M):D2 K (rI0 fun i j=>.int (g i j)) (.d (.int i)) (.d (.int j)) M Q:=fun H v u QQ oa s1 s2 k=>by
 rw[BF s1,BF s2];exact⟨i,j,rfl,rfl,k _ H _ M oa BP Step.refl q⟩
theorem vK {g:Int->Int->Bool}{i j:Int}(q:Q (.d (.bool (g i j))) M):D2 K (rI0 fun i j=>.bl (g i j)) (.d (.int i)) (.d (.int j)) M Q:=fun H v u QQ oa s1 s2 k=>by
 rw[BF s1,BF s2];exact⟨i,j,rfl,rfl,k _ H _ M oa AJ Step.refl q⟩
theorem uA {C:Int->Int->Prop}{g:Int->Int->Int}{i j:Int}(c:C i j) (q:Q (.d (.int (g i j))) M):D2 K (rI C fun i j=>.int (g i j)) (.d (.int i)) (.d (.int j)) M Q:=fun H v u QQ oa s1 s2 k=>by
 rw[BF s1,BF s2];exact⟨i,j,rfl,rfl,c,k _ H _ M oa BP Step.refl q⟩
theorem vL {g:Int->Int}{i:Int}(q:Q (.d (.int (g i))) M):D1 K (rU fun i=>.int (g i)) (.d (.int i)) M Q:=fun H v QQ oa s1 k=>by
 rw[BF s1];exact⟨i,rfl,k _ H _ M oa BP Step.refl q⟩
theorem kX {i j:Str}(hz:i.length+j.length<=sizeLine) (q:Q (.d (.str (i++j))) M) :
   D2 K (fun x y H Q=>∃i j,x = .str i/\y = .str j/\i.length+j.length<=sizeLine/\Q (.str (i++j)) H) (.d (.str i)) (.d (.str j)) M Q:=fun H v u QQ oa s1 s2 k=>by
 rw[B7 s1,B7 s2];exact⟨i,j,rfl,rfl,hz,k _ H _ M oa FO Step.refl q⟩
theorem qU {i j:Str}(q:Q (.d (.bool (!(a5Q j i 0 j.length 1).isEmpty))) M) :
   D2 K (fun x y H Q=>∃i j,x = .str i/\y = .str j/\Q (.bl (!(a5Q j i 0 j.length 1).isEmpty)) H) (.d (.str i)) (.d (.str j)) M Q:=fun H v u QQ oa s1 s2 k=>by
 rw[B7 s1,B7 s2];exact⟨i,j,rfl,rfl,k _ H _ M oa AJ Step.refl q⟩
theorem AR {neg:Bool}{a b:PyData}(ha:zH a=true) (hb:zH b=true) (q:Q (.d (.bool (if neg then !a0Z a b else a0Z a b))) M):D2 K (PV K neg) (.d a) (.d b) M Q:=fun H v u QQ oa s1 s2 k=>
 ⟨M.W,a,b,s1,s2,ha,hb,k _ H _ M oa AJ Step.refl q⟩
theorem UH (x:Str) (ys:List Str):inV (.str x) (ys.map V.str)=decide (x∈ys):=by
 unfold inV
 rw[a8Z,c0X,decide_eq_true_iff]
 constructor
 · rintro⟨y,hy,e⟩
   obtain⟨z,hz,rfl⟩:=zL.mp hy
   have:z=x:=by simpa [eqV] using e
   subst this;exact hz
 · intro h
   exact⟨.str x,zL.mpr ⟨x,h,rfl⟩,by simp[eqV]⟩
theorem qV {neg:Bool}{x:Str}{ys:List Str}(q:Q (.d (.bool (if neg then !decide (x∈ys) else decide (x∈ys)))) M):D2 K (rIn K neg) (.d (.str x)) (.d (.list (ys.map .str))) M Q:=fun H v u QQ oa s1 s2 k=>by
 rw[B7 s1]
 unfold SI DV at s2
 obtain⟨a,vs,rfl,hl,hd⟩:=s2
 have e:=NW hd
 subst e
 exact⟨a,_,rfl,.inl hl.sq,rfl,by simp[J8],k _ H (.d (.bool (if neg then !decide (x∈ys) else decide (x∈ys)))) M oa (by rw[UH];exact AJ) Step.refl q⟩
theorem X1 {W:Addr->Prop}{ds:List PyData}{vs:List V}{i:Int}{d:PyData}(h:DVs K H W ds vs) (e:atI ds i=some d):∃v,atI vs i=some v/\DV K H W d v:=by
 unfold atI at e ⊢
 rw[h.length]
 cases hx:ixN ds.length i with
 | none=>rw[hx] at e;cases e
 | some j=>rw[hx] at e;simpa using h.get' (by simpa using e)
theorem qW {ds:List PyData}{i:Int}{d:PyData}(e:atI ds i=some d) (q:Q (.d d) M):D2 K (kC K) (.d (.list ds)) (.d (.int i)) M Q:=fun H v u QQ oa s1 s2 k=>by
 rw[BF s2]
 unfold SI DV at s1
 obtain⟨a,vs,rfl,hl,hd⟩:=s1
 obtain⟨w,h1,h2⟩:=X1 hd e
 exact⟨a,vs,i,w,rfl,rfl,hl.sq,h1,k _ H (.d d) M oa h2 Step.refl q⟩
theorem qX {ds:List PyData}{i:Int}{d:PyData}(e:atI ds i=some d) (q:Q (.d d) M):D2 K (pY K) (.d (.tuple ds)) (.d (.int i)) M Q:=fun H v u QQ oa s1 s2 k=>by
 rw[BF s2]
 unfold SI DV at s1
 obtain⟨a,vs,rfl,hl,hd⟩:=s1
 obtain⟨w,h1,h2⟩:=X1 hd e
 exact⟨a,vs,i,w,rfl,rfl,hl.sq,h1,k _ H (.d d) M oa h2 Step.refl q⟩
theorem qY {a:Addr}{ds:List PyData}{i:Int}{d:PyData}(m:M a=some (.l ds)) (e:atI ds i=some d) (q:Q (.d d) M):D2 K (kC K) (.loc a) (.d (.int i)) M Q:=fun H v u QQ oa s1 s2 k=>by
 rw[BF s2]
 unfold SI at s1
 subst s1
 obtain⟨vs,h0,hd⟩:=oa a _ m
 obtain⟨w,h1,h2⟩:=X1 hd e
 exact⟨a,vs,i,w,rfl,rfl,SqL.of h0,h1,k _ H (.d d) M oa h2 Step.refl q⟩
theorem qZ {z:Str}{i:Int}{c:Nat}(hz:z.length<=sizeLine) (e:atI z.cps.toList i=some c) (q:Q (.d (.str ⟨#[c]⟩)) M):D2 K pZ (.d (.str z)) (.d (.int i)) M Q:=fun H v u QQ oa s1 s2 k=>by
 rw[BF s2,B7 s1]
 exact⟨z,i,c,rfl,rfl,hz,e,k _ H _ M oa FO Step.refl q⟩
theorem EJ {r r':R2}{x y:DS}(h:D2 K r x y M Q):D2 K (fun x y H Q=>r x y H Q∨r' x y H Q) x y M Q:=fun H v u QQ oa s1 s2 k=>.inl (h H v u QQ oa s1 s2 k)
theorem G7 {r r':R2}{x y:DS}(h:D2 K r' x y M Q):D2 K (fun x y H Q=>r x y H Q∨r' x y H Q) x y M Q:=fun H v u QQ oa s1 s2 k=>.inr (h H v u QQ oa s1 s2 k)
theorem r6 {as bs:List PyData}(hz:as.length+bs.length<=sizeLine) (q:Q (.d (.list (as++bs))) M):D2 K (fun x y H Q=>∃a b xs ys,x = .ref a/\y = .ref b/\SqL K H a xs/\SqL K H b ys/\xs.length+ys.length<=sizeLine/\∀p,H p=none->Q (.ref p) (upd H p (.lst (xs++ys)))) (.d (.list as)) (.d (.list bs)) M Q:=fun H v u QQ oa s1 s2 k=>by
 unfold SI DV at s1 s2
 obtain⟨a,vs,rfl,hl,hd⟩:=s1
 obtain⟨b,us,rfl,hl2,hd2⟩:=s2
 refine⟨a,b,vs,us,rfl,rfl,hl.sq,hl2.sq,by rw[hd.length,hd2.length];exact hz,fun p hp=>?_⟩
 have g:Grow K M.W M.W H (upd H p (.lst (vs++us))):=AW _ hp
 refine k _ _ (.d (.list (as++bs))) M (oa.new hp) ?_ ⟨g⟩ q
 unfold SI DV
 exact⟨p,_,rfl,.inl ⟨fun w=>w (oa.none hp),.inl AG⟩,(hd.append hd2).grow g⟩
theorem kY {z:Str}(hz:z.length<=sizeLine) (q:Q (.d (.int z.length)) M):DR K (fun xs H Q=>∃x n,xs=[x]/\dH K x H n/\Q (.int (n:Nat)) H) [.d (.str z)] M Q:=fun H vs QQ oa s k=>by
 obtain⟨v,r,rfl,h1,h2⟩:=s
 cases h2
 rw[B7 h1]
 exact⟨_,_,rfl,⟨hz,rfl⟩,k _ H _ M oa BP Step.refl q⟩
theorem kZ {ds:List PyData}(q:Q (.d (.int ds.length)) M):DR K (fun xs H Q=>∃x n,xs=[x]/\dH K x H n/\Q (.int (n:Nat)) H) [.d (.list ds)] M Q:=fun H vs QQ oa s k=>by
 obtain⟨v,r,rfl,h1,h2⟩:=s
 cases h2
 unfold SI DV at h1
 obtain⟨a,vs,rfl,hl,hd⟩:=h1
 exact⟨_,_,rfl,.inl ⟨vs,hl.sq,rfl⟩,k _ H (.d (.int ds.length)) M oa (by rw[hd.length];exact BP) Step.refl q⟩
theorem l0 {ds:List PyData}(q:Q (.d (.int ds.length)) M):DR K (fun xs H Q=>∃x n,xs=[x]/\dH K x H n/\Q (.int (n:Nat)) H) [.d (.tuple ds)] M Q:=fun H vs QQ oa s k=>by
 obtain⟨v,r,rfl,h1,h2⟩:=s
 cases h2
 unfold SI DV at h1
 obtain⟨a,vs,rfl,hl,hd⟩:=h1
 exact⟨_,_,rfl,.inr ⟨vs,hl.sq,rfl⟩,k _ H (.d (.int ds.length)) M oa (by rw[hd.length];exact BP) Step.refl q⟩
theorem r8 {bs:List Bool}(q:Q (.d (.bool (bs.all id))) M):DR K (fun xs H Q=>∃(p:Addr) (bs:List Bool),xs=[.ref p]/\SqL K H p (bs.map V.bl)/\Q (.bl (bs.all id)) H) [.d (.list (bs.map .bool))] M Q:=fun H vs QQ oa s k=>by
 obtain⟨v,r,rfl,h1,h2⟩:=s
 cases h2
 unfold SI DV at h1
 obtain⟨a,vs,rfl,hl,hd⟩:=h1
 rw[LA hd] at hl
 exact⟨a,bs,rfl,hl.sq,k _ H _ M oa AJ Step.refl q⟩
theorem r9 {bs:List Bool}(q:Q (.d (.bool (bs.any id))) M):DR K (fun xs H Q=>∃(p:Addr) (bs:List Bool),xs=[.ref p]/\SqL K H p (bs.map V.bl)/\Q (.bl (bs.any id)) H) [.d (.list (bs.map .bool))] M Q:=fun H vs QQ oa s k=>by
 obtain⟨v,r,rfl,h1,h2⟩:=s
 cases h2
 unfold SI DV at h1
 obtain⟨a,vs,rfl,hl,hd⟩:=h1
 rw[LA hd] at hl
 exact⟨a,bs,rfl,hl.sq,k _ H _ M oa AJ Step.refl q⟩
theorem l3 {z:Str}:DTy K "str" (.d (.str z)) M:=fun H v _ s=>by rw[B7 s];exact rfl
theorem SA {a:Addr}{ds:List PyData}(m:M a=some (.l ds)):DTy K "list" (.loc a) M:=fun H v oa s=>by
 unfold SI at s
 subst s
 obtain⟨vs,h0,hd⟩:=oa a _ m
 exact .inl ⟨rfl,vs,SqL.of h0⟩
theorem LC {a:Addr}{ds:List PyData}{d:PyData}(m:M a=some (.l ds)) (hz:ds.length < sizeLine) (q:Q (.d .none) (M.put a (.l (ds++[d])))):DM K S3 (.loc a) [.d d] M Q:=fun H v vs QQ oa s1 s2 k=>by
 obtain⟨u,r,rfl,h1,h2⟩:=s2
 cases h2
 unfold SI at s1
 subst s1
 obtain⟨us,h0,hd⟩:=oa a _ m
 obtain⟨x,y⟩:=LB oa m (hd.append (DVs.cons h1 DVs.nil))
 exact⟨a,us,u,rfl,rfl,h0,by rw[hd.length];exact hz,k _ _ (.d .none) _ x (by unfold SI DV;rfl) y q⟩
theorem l4 {z:Str}{lo hi:Option Int}(hz:z.length<=sizeLine) (q:Q (.d (.str (a0J z lo hi))) M):DSl K qH (.d (.str z)) lo hi M Q:=fun H v QQ oa s1 k=>by
 rw[B7 s1]
 exact⟨z,rfl,hz,k _ H _ M oa FO Step.refl q⟩
def E4 (xs:List PyData) (lo hi:Option Int):List PyData:=(xs.drop (HT.sIx xs.length 0 lo)).take (HT.sIx xs.length xs.length hi - HT.sIx xs.length 0 lo)
theorem eQ {ds:List PyData}{lo hi:Option Int}(q:Q (.d (.list (E4 ds lo hi))) M):DSl K (qC K) (.d (.list ds)) lo hi M Q:=fun H v QQ oa s1 k=>by
 unfold SI DV at s1
 obtain⟨a,vs,rfl,hl,hd⟩:=s1
 refine⟨a,vs,rfl,hl.sq,fun p hp=>?_⟩
 have g:Grow K M.W M.W H (upd H p (.lst (JQ vs lo hi))):=AW _ hp
 have key:DVs K H M.W (E4 ds lo hi) (JQ vs lo hi):=by
   unfold E4 JQ
   rw[hd.length]
   exact(hd.drop _).take _
 refine k _ _ (.d (.list (E4 ds lo hi))) M (oa.new hp) ?_ ⟨g⟩ q
 unfold SI DV
 exact⟨p,_,rfl,.inl ⟨fun w=>w (oa.none hp),.inl AG⟩,key.grow g⟩
end
end DL
namespace DL
open PySem PySem.Spec L2
structure WD (K:Frg) (J:It) (ds:List PyData) (H1:Hp) (M1:Own):Prop where
 go:∀(i:Nat) H' M',i < ds.length->OA K H' M'->Step K M1 M' H1 H'->J.go i H'
 stop:∀H' M',OA K H' M'->Step K M1 M' H1 H'->J.stop ds.length H'
 yld:∀(i:Nat) H' M' x H2,OA K H' M'->Step K M1 M' H1 H'->i < ds.length->J.yld i H' x H2->OA K H2 M'/\Step K M' M' H' H2/\∃d,ds[i]?=some d/\DV K H2 M'.W d x
def DI (K:Frg) (wi:TI) (ρ:List (Option DS)) (M:Own) (Q:List PyData->Own->Prop):Prop:=
 ∀(σ:St) (H:Hp) (R:It->Hp->Prop),Rel K M ρ σ H->(∀J ds H1 M1,OA K H1 M1->Step K M M1 H H1->WD K J ds H1 M1->Q ds M1->R J H1)->wi σ H R
def DG (K:Frg) (g:TG) (d:PyData) (ρ:List (Option DS)) (M:Own) (P:List (Option DS)->Own->Prop):Prop:=
 ∀(σ:St) (H:Hp) (v:V) (QQ:St->Hp->Prop),Rel K M ρ σ H->DV K H M.W d v->(∀ρ' M' σ' H',Rel K M' ρ' σ' H'->Step K M M' H H'->P ρ' M'->QQ σ' H')->g v σ H QQ
def QS (g:TG) (T:List Nat):Prop:=∀(v:V) (σ:St) (H:Hp) (QQ:St->Hp->Prop),g v σ H (fun σ2 H2=>(∀i,i∉T->σ2[i]?=σ[i]?)->QQ σ2 H2)->g v σ H QQ
section
variable {K:Frg}{ρ:List (Option DS)}{M:Own}{D:EndsD}{tl:TE}{tb:TS}{i:Nat}{QI:List PyData->Own->Prop}{g:TG}{wi:TI}
def BL (z:Str):List PyData:=z.cps.toList.map fun c=>.str ⟨#[c]⟩
def C8 (lo:Int) (n:Nat):List PyData:=(a1V n).map fun(i:Nat)=>.int (lo+i)
theorem G8 {ta:TA}(h:DA K ta ρ M fun xs M1=>∃j:Int,xs=[.d (.int j)]/\-(2 ^ 62)<=j/\j < 2 ^ 62/\QI (C8 0 j.toNat) M1):DI K (nS ta) ρ M QI:=fun σ H R Rl k=>
 h σ H _ Rl fun vs H1 xs M1 o1 s1 t1 ⟨j,e,h1,h2,q⟩=>by
   subst e
   obtain⟨v,r,rfl,h3,h4⟩:=s1
   cases h4
   rw[show v = .int j by unfold SI DV at h3;exact h3]
   have hlen:(C8 0 j.toNat).length=j.toNat:=by simp[C8]
   refine⟨j,rfl,h1,h2,k _ (C8 0 j.toNat) H1 M1 o1 t1 ⟨fun i H' M' hi oa st=>?_,fun H' M' oa st=>?_,fun i H' M' x H2 oa st hi y=>?_⟩ q⟩
   · show i < j.toNat;rw[← hlen];exact hi
   · show j.toNat<=(C8 0 j.toNat).length;rw[hlen];exact zR _
   · obtain⟨rfl,rfl⟩:=y
     refine⟨oa,Step.refl,.int (0+i),?_,by unfold DV;rfl⟩
     unfold C8
     rw[zF]
     rw[hlen] at hi
     simp[hi]
theorem l5 {d:PyData}{P:List (Option DS)->Own->Prop}(h:P (ρ.set i (some (.d d))) M):DG K (NL i) d ρ M P:=fun σ H v QQ R dv k=>k _ M _ H (R.set (x:=.d d) dv i) Step.refl h
theorem B8 (i:Nat):QS (NL i) [i]:=fun v σ H QQ h=>h fun j hj=>by
 rw[b1J (by rintro rfl;exact hj (by simp))]
abbrev EndsD.turn (D:EndsD) (P:List (Option DS)->Own->Prop):EndsD:={ nx:=P,ct:=P,bk:=D.nx,rt:=D.rt }
theorem JT (h:DI K wi ρ M fun ds M1=>∃P:Nat->List (Option DS)->Own->Prop,P 0 ρ M1/\(∀k d ρ' M',ds[k]?=some d->P k ρ' M'->DG K g d ρ' M' fun ρ2 M2=>DSt K tb ρ2 M2 (D.turn (P (k+1))))/\∀ρ' M',P ds.length ρ' M'->D.nx ρ' M') :
   DSt K (tF wi g tb) ρ M D:=fun σ H E R k1 k2 k3 k4=>
 h σ H _ R fun J ds H1 M1 o1 t1 wd ⟨P,p0,pt,pe⟩=>by
   refine⟨fun i m σ' H'=>m=ds.length - i/\i<=ds.length/\∃ρ' M',Rel K M' ρ' σ' H'/\Step K M1 M' H1 H'/\P i ρ' M',⟨_,rfl,xT _,ρ,M1,R.step o1 t1,Step.refl,p0⟩,?_⟩
   rintro i m σ' H' ⟨rfl,hi,ρ',M',R',st,p⟩
   by_cases hlt:i < ds.length
   · refine .inr ⟨wd.go i H' M' hlt R'.own st,fun σ2 H2=>∃ρ2 M2,Rel K M2 ρ2 σ2 H2/\Step K M1 M2 H1 H2/\P (i+1) ρ2 M2,fun σ2 H2 ⟨ρ2,M2,a,b,c⟩=>⟨ds.length - (i+1),by omega,rfl,hlt,ρ2,M2,a,b,c⟩,fun x H2 y=>?_⟩
     obtain⟨oa2,st2,d,e1,e2⟩:=wd.yld i H' M' x H2 R'.own st hlt y
     refine pt i d ρ' M' e1 p σ' H2 x _ (R'.step oa2 st2) e2 fun ρ3 M3 σ3 H3 R3 st3 b3=>?_
     have s3:=(st.trans st2).trans st3
     exact b3 σ3 H3 _ R3 (fun r m s hh R4 st4 q=>⟨r,m,R4,s3.trans st4,q⟩) (fun w hh x m a b c q=>k2 w hh x m a b (t1.trans (s3.trans c)) q)
       (fun r m s hh R4 st4 q=>k1 r m s hh R4 (t1.trans (s3.trans st4)) q) (fun r m s hh R4 st4 q=>⟨r,m,R4,s3.trans st4,q⟩)
   · have e:i=ds.length:=by omega
     subst e
     exact .inl ⟨wd.stop H' M' R'.own st,k1 ρ' M' σ' H' R' (t1.trans st) (pe ρ' M' p)⟩
def M9 (fr:List (Option Nat)) (ρ:List (Option DS)):List (Option DS):=fr.map fun o=>o.bind fun j=>(ρ[j]?).join
theorem LE {fr:List (Option Nat)}{α:Type}{ρ:List (Option α)}{i:Nat}{x:α}(h:(fr.map fun o=>o.bind fun j=>(ρ[j]?).join)[i]?=some (some x)):∃j,fr[i]?=some (some j)/\ρ[j]?=some (some x):=by
 rw[zF] at h
 cases hf:fr[i]? with
 | none=>rw[hf] at h;cases h
 | some o=>
   rw[hf] at h
   cases o with
   | none=>cases h
   | some j=>
     refine⟨j,rfl,?_⟩
     have e2:((ρ[j]?).join)=some x:=Option.some.inj h
     cases hs:ρ[j]? with
     | none=>rw[hs] at e2;cases e2
     | some q=>rw[hs] at e2;cases q with
       | none=>cases e2
       | some v'=>cases e2;rfl
theorem Rel.capt {fr:List (Option Nat)}{σ:St}{H:Hp}(R:Rel K M ρ σ H):Rel K M (M9 fr ρ) (L2.capt fr σ) H:=by
 refine⟨R.own,by unfold M9 L2.capt;rw[zX,zX],fun i x e=>?_⟩
 obtain⟨j,e1,e2⟩:=LE e
 obtain⟨v,h1,h2⟩:=R.slot j x e2
 refine⟨v,?_,h2⟩
 unfold L2.capt
 rw[zF,e1]
 simp[h1]
theorem SB {fr:List (Option Nat)}{tt:TT}{te:TE}{T:List Nat}{Q:DS->Own->Prop}(ho:QS g T) (hT:∀i∈T,∀j,fr[i]?≠some (some j))
   (h:DI K wi ρ M fun ds M1=>ds.length < sizeLine/\∀D,M1 D=none->∃P:Nat->List PyData->Own->Prop,P 0 [] (M1.put D (.l []))/\(∀k acc M',P k acc M'->M' D=some (.l acc)/\acc.length<=k) /\
     (∀k d acc M',ds[k]?=some d->P k acc M'->DG K g d (M9 fr ρ) M' fun ρ2 M2=>DT K tt ρ2 M2 fun c M3=>if c=true then DE K te ρ2 M3 fun y M4=>∃r,y = .d r/\M4 D=some (.l acc)/\P (k+1) (acc++[r]) (M4.put D (.l (acc++[r]))) else P (k+1) acc M3) /\
     ∀acc M',P ds.length acc M'->Q (.d (.list acc)) (M'.del D)) :
   DE K (QR fr wi g tt te) ρ M Q:=fun σ H QQ R k=>
 h σ H _ R fun J ds H1 M1 o1 t1 wd ⟨hsz,hq⟩=>by
   intro A hA
   obtain⟨P,p0,pa,pt,pe⟩:=hq A (o1.none hA)
   obtain⟨oA,sA⟩:=YX o1 hA (DVs.nil (K:=K) (H:=H1) (W:=M1.W))
   refine⟨fun i m ys H2=>m=ds.length - i/\i<=ds.length/\H2 A=some (.lst ys)/\∃acc M',OA K H2 M'/\Step K M1 M' H1 H2/\P i acc M',⟨_,rfl,xT _,AG,[],_,oA,sA,p0⟩,?_⟩
   rintro i m ys H2 ⟨rfl,hi,hys,acc,M',oa,st,p⟩
   refine⟨hys,?_⟩
   have hs0:∀{N:Own},(N.del A).Sub N:=fun {N} b o q=>by
     unfold Own.del at q
     by_cases hb:b=A
     · rw[if_pos hb] at q;cases q
     · rw[if_neg hb] at q;exact q
   by_cases hlt:i < ds.length
   · refine .inr ⟨wd.go i H2 M' hlt oa st,fun x H3 y=>?_⟩
     obtain⟨oa3,st3,d,e1,e2⟩:=wd.yld i H2 M' x H3 oa st hlt y
     have Rc:Rel K M' (M9 fr ρ) (L2.capt fr σ) H3:=((R.step o1 t1).step oa3 (st.trans st3)).capt
     refine ho _ _ _ _ (pt i d acc M' e1 p (L2.capt fr σ) H3 x _ Rc e2 fun ρ3 M3 σ3 H4 R3 st4 b3 hext=>⟨fun i' v' hv'=>?_,?_⟩)
     · obtain⟨j,f1,f2⟩:=LE hv'
       rw[hext i' fun hm=>hT i' hm j f1]
       exact hv'
     · refine b3 σ3 H4 _ R3 fun c H5 M5 o5 st5 h5=>?_
       have sx:=((st.trans st3).trans st4).trans st5
       cases c with
       | false=>
         rw[if_neg nft] at h5 ⊢
         obtain⟨hm,_⟩:=pa _ _ _ h5
         obtain⟨vs,q1,q2⟩:=o5 A _ hm
         exact⟨vs,ds.length - (i+1),by omega,rfl,hlt,q1,acc,M5,o5,sx,h5⟩
       | true=>
         rw[if_pos rfl] at h5 ⊢
         refine h5 σ3 H5 _ (R3.step o5 st5) fun y H6 z M6 o6 s6 st6 h6=>?_
         obtain⟨r,rfl,hm,p'⟩:=h6
         obtain⟨vs,q1,q2⟩:=o6 A _ hm
         obtain⟨w1,w2⟩:=LB o6 hm (q2.append (DVs.cons s6 DVs.nil))
         have hlen:acc.length<=i:=(pa _ _ _ p).2
         exact⟨vs,q1,by rw[q2.length];omega,ds.length - (i+1),by omega,rfl,hlt,AG,_,_,w1,(sx.trans st6).trans w2,p'⟩
   · have e:i=ds.length:=by omega
     subst e
     refine .inl ⟨wd.stop H2 M' oa st,?_⟩
     obtain⟨hm,_⟩:=pa _ _ _ p
     obtain⟨vs,q1,q2⟩:=oa A _ hm
     have hst:Step K M' (M'.del A) H2 H2:=⟨B6 hs0⟩
     refine k _ H2 (.d (.list acc)) (M'.del A) (oa.sub hs0) ?_ ((t1.trans st).trans hst) (pe acc M' p)
     unfold SI DV
     exact⟨A,vs,rfl,.inl ⟨fun w=>w (by unfold Own.del;rw[if_pos rfl]),.inl q1⟩,q2.grow (B6 hs0)⟩
theorem AI {fr:List (Option Nat)}{tt:TT}{te:TE}{T:List Nat}{Q:DS->Own->Prop}(ho:QS g T) (hT:∀i∈T,∀j,fr[i]?≠some (some j))
   (h:DI K wi ρ M fun ds M1=>ds.length < sizeLine/\∃(c:PyData->Bool) (f:PyData->PyData),(∀d∈ds,∀M',DG K g d (M9 fr ρ) M' fun ρ2 M2=>M2=M'/\DT K tt ρ2 M2 fun b M3=>M3=M'/\b=c d/\(c d=true->DE K te ρ2 M3 fun y M4=>y = .d (f d)/\M4=M'))/\Q (.d (.list ((ds.filter c).map f))) M1) :
   DE K (QR fr wi g tt te) ρ M Q:=by
 refine SB ho hT fun σ H R Rl k=>h σ H R Rl fun J ds H1 M1 o1 t1 wd q=>k J ds H1 M1 o1 t1 wd ?_
 obtain⟨hsz,c,f,he,q⟩:=q
 refine⟨hsz,fun A hA=>⟨fun k acc M'=>acc=((ds.take k).filter c).map f/\M'=M1.put A (.l acc),⟨by simp,rfl⟩,fun k acc M' ⟨e1,e2⟩=>⟨by rw[e2];exact zU,?_⟩,fun k d acc M' hd ⟨e1,e2⟩=>?_,fun acc M' ⟨e1,e2⟩=>?_⟩⟩
 · rw[e1,zX]
   exact zN (yJ _ _) (by rw[a2V];omega)
 · have hm:d∈ds:=yN hd
   intro σ H v QQ R dv kk
   refine he d hm M' σ H v QQ R dv fun ρ' M2 σ' H' R' st ⟨eM,q2⟩=>kk ρ' M2 σ' H' R' st fun σ2 H2 QQ2 R2 k2=>?_
   refine q2 σ2 H2 QQ2 R2 fun b H3 M3 o3 st3 ⟨eM3,eb,q3⟩=>k2 b H3 M3 o3 st3 ?_
   have ts:(ds.take (k+1)).filter c=(ds.take k).filter c++(if c d then [d] else []):=take_succ_filter c ds k d hd
   cases hb:c d with
   | false=>
     rw[hb] at eb
     subst eb
     refine L2.kH ⟨?_,by rw[eM3,e2]⟩
     rw[ts,hb,e1];simp
   | true=>
     rw[hb] at eb
     subst eb
     refine L2.kI ?_
     refine YY (q3 hb) fun y M4 ⟨ey,e4⟩=>⟨f d,ey,by rw[e4,e2];exact zU,?_,by rw[e4,e2,yI]⟩
     rw[ts,hb,e1];simp
 · rw[e2,yG hA,e1,a3W]
   exact q
end
def NX (N:List Str) (xs:List DS):List (Option DS):=xs.map some++a2Z (N.length - xs.length) none
section
variable {P:Program}{w:World}{K:Frg}{mg:Str->Option Value}{base:Heap}
theorem SIs.get {M:Own}{H:Hp}:∀{xs:List DS}{vs:List V}{i:Nat}{x:DS},SIs K H M xs vs->xs[i]?=some x->∃v,vs[i]?=some v/\SI K H M x v
 | [],_,_,_,_,e=>by simp at e
 | d::ds,vs,i,x,⟨v,r,e',h1,h2⟩,e=>by
   subst e'
   cases i with
   | zero=>simp at e;subst e;exact⟨v,rfl,h1⟩
   | succ i=>simpa using SIs.get h2 (by simpa using e)
theorem QT {M:Own}{H:Hp}{N:List Str}{xs:List DS}{vs:List V}(oa:OA K H M) (h:SIs K H M xs vs):Rel K M (NX N xs) (L2.EZ N vs) H:=by
 have hl:=h.length
 refine⟨oa,by unfold NX L2.EZ;simp[hl],fun i x e=>?_⟩
 unfold NX at e
 by_cases hi:i < xs.length
 · rw[yQ (by simpa using hi),zF] at e
   cases q:xs[i]? with
   | none=>rw[q] at e;cases e
   | some y=>
     rw[q] at e
     cases e
     obtain⟨v,h1,h2⟩:=h.get q
     refine⟨v,?_,h2⟩
     unfold L2.EZ
     rw[yQ (by rw[zX,hl];exact hi),zF,h1]
     rfl
 · rw[List.getElem?_append_right (by simpa using hi),List.getElem?_replicate] at e
   split at e <;> cases e
theorem fnD {x qual:Str}{st:Stmt}{f:Addr}{fd:FuncData}{N ps:List Str}{k:Nat}{S:FSp}(F:Fun K x qual st f fd) (Sc:FnScope N ps (AC st))
   (hbody:∀(cdv:Value) (A:Around) (outer:List Env) (s:Shared) (H:Hp) (E:XK),Room k (A.deeper (PyProof.Rows.envOfC qual (AC st) s.heap.objs.size f cdv)) ->
     ∃t,PSs (K7 CX0 P w K mg base N qual (AC st) f cdv A outer s H E).nox (BJ st) t/\∀xs M,xs.length=ps.length->S.pre xs M->DSt K t (NX N xs) M { nx:=fun _ M1=>∃M2:Own,M2.Sub M1/\S.post xs M (.d .none) M2,rt:=fun y M1=>∃M2:Own,M2.Sub M1/\S.post xs M y M2 }) :
   FnOk P w K mg base CX0 (k+1) f fd ps (spD K ps.length S):=by
 refine F.ok Sc YZ fun cdv A outer s H vs Q E hr h=>?_
 obtain⟨t,ht,hq⟩:=hbody cdv A outer s H E hr
 obtain⟨xs,M,hl,oa,si,pre,post⟩:=h
 refine⟨t,ht,hq xs M hl pre (L2.EZ N vs) H _ (QT oa si) ?_ ?_ (fun _ _ _ _ _ _ z=>z.elim) (fun _ _ _ _ _ _ z=>z.elim)⟩
 · rintro ρ' M1 σ' H' R st ⟨M2,hs,p⟩
   exact post (.d .none) M2 .non H' p (st.trans ⟨B6 hs⟩) (R.own.sub hs) (by unfold SI DV;rfl)
 · rintro v H' y M1 o s1 st ⟨M2,hs,p⟩
   exact post y M2 v H' p (st.trans ⟨B6 hs⟩) (o.sub hs) (s1.sub hs)
end
end DL
namespace L2
open PySem PySem.Spec PyProof.Rows
section
variable {X:Cx}{tg:Expr}
def UI (K:Frg):R2:=fun x y H Q=>(rI0 fun i j=>.int (i+j)) x y H Q∨((∃i j,x = .str i/\y = .str j/\i.length+j.length<=sizeLine/\Q (.str (i++j)) H)∨oB K x y H Q)
theorem l6:OpR X (binaryOp .Add) (UI X.K):=pM.or (WS.or kN)
def aR (K:Frg):R2:=fun x y H Q=>kC K x y H Q∨(pY K x y H Q∨pZ x y H Q)
theorem rA:IxR X (aR X.K):=kD.or (qA.or qB)
def l7 (K:Frg):V->Option Int->Option Int->Hp->VK->Prop:=fun x lo hi H Q=>qC K x lo hi H Q∨qH x lo hi H Q
theorem rB:SlR X (l7 X.K):=kE.or qI
def eR (K:Frg):R2:=fun x y H Q=>(∃i j,x = .str i/\y = .str j/\Q (.bl (!(a5Q j i 0 j.length 1).isEmpty)) H)∨rIn K false x y H Q
theorem rC:OpR X (compareOp .In) (eR X.K):=aH.or aM
def eT (K:Frg) (tl:TE):TI:=fun σ H R=>tl σ H fun x H1=>(∃a,x = .ref a/\(∃xs,SqL K H1 a xs)/\R (Itl K a) H1)∨(∃a,x = .ref a/\(∃xs,SqT K H1 a xs)/\R (Itt K a) H1)∨∃y,x = .str y/\R (Its y) H1
theorem rD {l:Expr}{tl:TE}(hl:PE X l tl):PI X tg l (eT X.K tl):=by
 intro pins s σ H R I h
 refine thn (hl pins s σ H _ I h) fun v s1 ⟨x,H1,I1,r1,q1⟩=>?_
 have fp:∀b∈[s1.heap.objs.size],JP X pins H1 b:=fun b hb=>by
   have e:b=s1.heap.objs.size:=by simpa using hb
   subst e
   exact I1.fpOk (zR _) (I1.hok.fresh (zR _))
 rcases q1 with ⟨a,e,⟨xs,hq⟩,q⟩ | ⟨a,e,⟨xs,hq⟩,q⟩ | ⟨y,e,q⟩
 · subst e
   cases r1
   obtain⟨its,rv,p,hz⟩:=I1.list hq
   refine wpAny_pyIter_list p.isList ?_
   exact⟨s1.heap.objs.size,[s1.heap.objs.size],_,_,H1,rfl,I1.kept (t':=s1.toks) fun b o e=>zW _ e,aE a _,⟨_,yZ _ rfl,rfl,rfl⟩,fp,q⟩
 · subst e
   cases r1
   obtain⟨its,rv,p,hz⟩:=I1.tuple hq
   refine wpAny_pyIter_tuple (show s1.heap.IsTuple a its.toArray from p) ?_
   exact⟨s1.heap.objs.size,[s1.heap.objs.size],_,_,H1,rfl,I1.kept (t':=s1.toks) fun b o e=>zW _ e,WO a _,⟨_,yZ _ rfl,rfl,rfl⟩,fp,q⟩
 · subst e
   obtain⟨t,rfl⟩:=r1
   cases ha:y.cps.all (· < 128)
   · exact wpAny_pyIter_wide ha ⟨s1.heap.objs.size,[s1.heap.objs.size],_,_,H1,rfl,I1.kept (t':=s1.toks) fun b o e=>zW _ e,
       UG s1.heap.objs.size "str_iterator" y t (by decide) (fun A hA=>Walks.strWide hA _ y t) (fun _ _ _ _ _ st h=>wpAny_pyIter_striter_wide st h),⟨_,yZ _ rfl,rfl,rfl⟩,fp,q⟩
   · exact wpAny_pyIter_ascii ha ⟨s1.heap.objs.size,[s1.heap.objs.size],_,_,H1,rfl,I1.kept (t':=s1.toks) fun b o e=>zW _ e,
       UG s1.heap.objs.size "str_ascii_iterator" y t (by decide) (fun A hA=>Walks.strAscii hA _ y t) (fun _ _ _ _ _ st h=>wpAny_pyIter_striter_ascii st h),⟨_,yZ _ rfl,rfl,rfl⟩,fp,q⟩
end
def eU:NameKind->Bool | .free=>true | _=>false
def eV:NameKind->Bool | .cell=>true | _=>false
def Z4:NameKind->Bool | .local=>true | _=>false
def eY (osc:Scope) (ON:List Str) (scope:Scope) (NC:List Str) (fr:List (Option Nat)):Bool:=
 (match scope.kind with | .function=>true | _=>false)&&scope.names.all (fun y=>!eV y.2) &&
 scope.names.all (fun y=>!Z4 y.2||(match scope.names.lookup y.1 with | some .local=>true | _=>false)) &&
 scope.names.all (fun y=>!eU y.2||(match osc.names.lookup y.1 with | some .cell=>true | some .free=>true | _=>false)) &&
 fr.length==NC.length &&
 (a1V NC.length).all fun i=>match fr[i]?,NC[i]? with
   | some (some j),some x=>ON[j]?==some x&&(match scope.names.lookup x with | some .free=>true | _=>false)&&(match osc.names.lookup x with | some .cell=>true | some .free=>true | _=>false)
   | _,_=>true
theorem CSc.of {X:Cx}{scope:Scope}{NC:List Str}{fr:List (Option Nat)}{osc:Scope}{ON:List Str}(h:eY osc ON scope NC fr=true) (e:X.env.scope=osc) (eN:X.N=ON):CSc X scope NC fr:=by
 subst e eN
 unfold eY at h
 simp only[a0V,b2Q,List.mem_range,beq_iff_eq] at h
 obtain⟨⟨⟨⟨⟨h1,h2⟩,h3⟩,h4⟩,h5⟩,h6⟩:=h
 refine⟨?_,fun y hy e=>?_,fun y hy e=>?_,fun y hy e=>?_,h5,fun i j x e1 e2=>?_⟩
 · cases hk:scope.kind <;> rw[hk] at h1 <;> simp at h1 ⊢
 · have:=h2 y hy;rw[e] at this;simp[eV] at this
 · have:=h3 y hy
   rw[e] at this
   simp only[Z4,Bool.not_true,Bool.false_or] at this
   cases hl:scope.names.lookup y.1 with
   | none=>rw[hl] at this;cases this
   | some k=>rw[hl] at this;cases k <;> first | rfl | cases this
 · have:=h4 y hy
   rw[e] at this
   simp only[eU,Bool.not_true,Bool.false_or] at this
   cases hl:X.env.scope.names.lookup y.1 with
   | none=>rw[hl] at this;cases this
   | some k=>
     rw[hl] at this
     cases k <;> first
       | exact .inl hl
       | exact .inr hl
       | cases this
 · have hi:i < NC.length:=(yT.mp e1).1
   have:=h6 i hi
   rw[e1,e2] at this
   simp only[a0V,beq_iff_eq] at this
   obtain⟨⟨q1,q2⟩,q3⟩:=this
   refine⟨q1,?_,?_⟩
   · cases hl:scope.names.lookup x with
     | none=>rw[hl] at q2;cases q2
     | some k=>rw[hl] at q2;cases k <;> first | rfl | cases q2
   · cases hl:X.env.scope.names.lookup x with
     | none=>rw[hl] at q3;cases q3
     | some k=>
       rw[hl] at q3
       cases k <;> first
         | exact⟨.inr (.inl hl),fun z=>by have z':X.env.scope.names.lookup x=some .local:=z;rw[hl] at z';cases z'⟩
         | exact⟨.inr (.inr hl),fun z=>by have z':X.env.scope.names.lookup x=some .local:=z;rw[hl] at z';cases z'⟩
         | cases q3
end L2
namespace DL
open PySem PySem.Spec L2
section
variable {K:Frg}{ρ:List (Option DS)}{M:Own}{Q:DS->Own->Prop}{H:Hp}{QI:List PyData->Own->Prop}{tl ta tb:TE}
theorem eZ {i j:Int}(q:Q (.d (.int (i+j))) M):D2 K (UI K) (.d (.int i)) (.d (.int j)) M Q:=EJ (u9 q)
theorem fA {i j:Str}(hz:i.length+j.length<=sizeLine) (q:Q (.d (.str (i++j))) M):D2 K (UI K) (.d (.str i)) (.d (.str j)) M Q:=G7 (EJ (kX hz q))
theorem fB {a b:List PyData}(hz:a.length+b.length<=sizeLine) (q:Q (.d (.list (a++b))) M):D2 K (UI K) (.d (.list a)) (.d (.list b)) M Q:=G7 (G7 (r6 hz q))
theorem DH {ds:List PyData}{i:Int}{d:PyData}(e:atI ds i=some d) (q:Q (.d d) M):D2 K (aR K) (.d (.list ds)) (.d (.int i)) M Q:=EJ (qW e q)
theorem l8 {a:Addr}{ds:List PyData}{i:Int}{d:PyData}(m:M a=some (.l ds)) (e:atI ds i=some d) (q:Q (.d d) M):D2 K (aR K) (.loc a) (.d (.int i)) M Q:=EJ (qY m e q)
theorem AA {ds:List PyData}{i:Int}{d:PyData}(e:atI ds i=some d) (q:Q (.d d) M):D2 K (aR K) (.d (.tuple ds)) (.d (.int i)) M Q:=G7 (EJ (qX e q))
theorem SD {z:Str}{i:Int}{c:Nat}(hz:z.length<=sizeLine) (e:atI z.cps.toList i=some c) (q:Q (.d (.str ⟨#[c]⟩)) M):D2 K (aR K) (.d (.str z)) (.d (.int i)) M Q:=G7 (G7 (qZ hz e q))
theorem fC {z:Str}{lo hi:Option Int}(hz:z.length<=sizeLine) (q:Q (.d (.str (a0J z lo hi))) M):DSl K (l7 K) (.d (.str z)) lo hi M Q:=fun H v QQ oa s1 k=>.inr (l4 hz q H v QQ oa s1 k)
theorem aS {ds:List PyData}{lo hi:Option Int}(q:Q (.d (.list (E4 ds lo hi))) M):DSl K (l7 K) (.d (.list ds)) lo hi M Q:=fun H v QQ oa s1 k=>.inl (eQ q H v QQ oa s1 k)
theorem l9 {i j:Str}(q:Q (.d (.bool (!(a5Q j i 0 j.length 1).isEmpty))) M):D2 K (eR K) (.d (.str i)) (.d (.str j)) M Q:=EJ (qU q)
theorem G9 {x:Str}{ys:List Str}(q:Q (.d (.bool (decide (x∈ys)))) M):D2 K (eR K) (.d (.str x)) (.d (.list (ys.map .str))) M Q:=G7 (qV (neg:=false) q)
theorem BU (h:DE K tl ρ M fun x M1=>∃ds,x = .d (.list ds)/\QI ds M1):DI K (eT K tl) ρ M QI:=fun σ H R Rl k=>
 h σ H _ Rl fun v H1 x M1 o1 s1 t1 ⟨ds,e,q⟩=>by
   subst e
   unfold SI DV at s1
   obtain⟨a,vs,rfl,hl,hd⟩:=s1
   refine .inl ⟨a,rfl,⟨vs,hl.sq⟩,k _ ds H1 M1 o1 t1 ⟨fun i H' M' hi oa st=>?_,fun H' M' oa st=>?_,fun i H' M' x H2 oa st hi y=>?_⟩ q⟩
   · exact⟨vs,vs[i]'(by rw[hd.length];exact hi),(hl.grow st.grow).sq,by simp[hd.length,hi]⟩
   · exact⟨vs,(hl.grow st.grow).sq,by rw[hd.length];exact zR _⟩
   · obtain⟨rfl,y⟩:=y
     obtain⟨d,e1,e2⟩:=hd.get (y vs (hl.grow st.grow).sq)
     exact⟨oa,Step.refl,d,e1,e2.grow st.grow⟩
theorem EC (h:DE K tl ρ M fun x M1=>∃ds,x = .d (.tuple ds)/\QI ds M1):DI K (eT K tl) ρ M QI:=fun σ H R Rl k=>
 h σ H _ Rl fun v H1 x M1 o1 s1 t1 ⟨ds,e,q⟩=>by
   subst e
   unfold SI DV at s1
   obtain⟨a,vs,rfl,hl,hd⟩:=s1
   refine .inr (.inl ⟨a,rfl,⟨vs,hl.sq⟩,k _ ds H1 M1 o1 t1 ⟨fun i H' M' hi oa st=>?_,fun H' M' oa st=>?_,fun i H' M' x H2 oa st hi y=>?_⟩ q⟩)
   · exact⟨vs,vs[i]'(by rw[hd.length];exact hi),(hl.grow st.grow).sq,by simp[hd.length,hi]⟩
   · exact⟨vs,(hl.grow st.grow).sq,by rw[hd.length];exact zR _⟩
   · obtain⟨rfl,y⟩:=y
     obtain⟨d,e1,e2⟩:=hd.get (y vs (hl.grow st.grow).sq)
     exact⟨oa,Step.refl,d,e1,e2.grow st.grow⟩
theorem lA (h:DE K tl ρ M fun x M1=>∃z,x = .d (.str z)/\QI (BL z) M1):DI K (eT K tl) ρ M QI:=fun σ H R Rl k=>
 h σ H _ Rl fun v H1 x M1 o1 s1 t1 ⟨z,e,q⟩=>by
   subst e
   have hlen:(BL z).length=z.cps.size:=by simp[BL]
   rw[show v = .str z by unfold SI DV at s1;exact s1]
   refine .inr (.inr ⟨z,rfl,k _ (BL z) H1 M1 o1 t1 ⟨fun i H' M' hi oa st=>?_,fun H' M' oa st=>?_,fun i H' M' x H2 oa st hi y=>?_⟩ q⟩)
   · show i < z.cps.size;rw[← hlen];exact hi
   · exact hlen
   · obtain⟨rfl,c,e1,rfl⟩:=y
     exact⟨oa,Step.refl,.str ⟨#[c]⟩,by unfold BL;rw[zF];simp[e1],by unfold DV;rfl⟩
def tyD:PyData->String
 | .none => "NoneType"
 | .bool _ => "bool"
 | .int _ => "int"
 | .str _ => "str"
 | .list _ => "list"
 | .tuple _ => "tuple"
 | .dict _ => "dict"
end
end DL
namespace L2
open PySem PySem.Spec PyProof.Rows
section
variable {X:Cx}
def fD (K:Frg):List V->Hp->VK->Prop:=fun xs H Q=>∃(x:V) (T:String) (d:PyData) (W:Addr->Prop) (b:Bool),xs=[x,.ty T]/\DV K H W d x/\a3Q K (.type (DL.tyD d)) (.type T)=some b/\Q (.bl b) H
theorem aT:B2 X (.builtin "isinstance") (fD X.K):=by
 intro pins s σ H xs us Q I r h
 obtain⟨x,T,d,W,b,rfl,dv,e,q⟩:=h
 obtain⟨u,u',rfl,ru,ru'⟩:=dG r
 cases ru'
 have fin:∀tk,EP X pins σ Q (.bool b) { s with toks:=tk }:=fun tk=>⟨.bl b,H,I.tok _,rfl,q⟩
 cases d with
 | none=>unfold DV at dv;subst dv;exact FM I ru (TyOf.non) e fin
 | bool y=>unfold DV at dv;subst dv;exact FM I ru (TyOf.bl _) e fin
 | int i=>unfold DV at dv;subst dv;exact FM I ru (TyOf.int _) e fin
 | str y=>unfold DV at dv;subst dv;exact FM I ru (TyOf.str _) e fin
 | list ds=>
   unfold DV at dv
   obtain⟨a,vs,rfl,hl,_⟩:=dv
   cases ru
   obtain⟨its,rv,⟨o,n,h1,h2,_,_⟩,_⟩:=I.list hl.sq
   exact a1W PySem.W.kitx_list I.kIn ⟨o,h1,h2⟩ e (fun z=>nomatch z) fin
 | tuple ds=>
   unfold DV at dv
   obtain⟨a,vs,rfl,hl,_⟩:=dv
   cases ru
   obtain⟨its,rv,⟨o,h1,h2,_⟩,_⟩:=I.tuple hl.sq
   exact a1W PySem.W.kitx_tuple I.kIn ⟨o,h1,h2⟩ e (fun z=>nomatch z) fin
 | dict kvs=>
   unfold DV at dv
   obtain⟨a,vs,rfl,_,hl,_⟩:=dv
   rcases hl with hl | ⟨o',hl⟩
   · exact FM I ru (TyOf.dK hl) e fin
   · cases ru
     obtain⟨_,_,vs',_,dd⟩:=GV I.hok (.inr ⟨o',hl⟩)
     exact a1W PySem.W.kitx_dict I.kIn dd.typeIs e (fun z=>nomatch z) fin
end
end L2
namespace DL
open PySem PySem.Spec L2
section
variable {K:Frg}{ρ:List (Option DS)}{M:Own}{Q:DS->Own->Prop}{H:Hp}{ta tb:TE}
theorem fE {d:PyData}{T:String}{b:Bool}(e:a3Q K (.type (tyD d)) (.type T)=some b) (q:Q (.d (.bool b)) M):DR K (fD K) [.d d,.ty T] M Q:=fun H vs QQ oa s k=>by
 obtain⟨v,r,rfl,h1,v2,r2,rfl,h2,h3⟩:=s
 cases h3
 rw[show v2 = .ty T from h2]
 exact⟨v,T,d,M.W,b,rfl,h1,e,k _ H _ M oa AJ Step.refl q⟩
theorem Z5 (q:Q (.d (.dict [])) M):DE K dQ ρ M Q:=fun σ H QQ R k p hp=>by
 have g:Grow K M.W M.W H (upd H p (.dK [])):=AW _ hp
 refine k _ _ (.d (.dict [])) M (R.own.new hp) ?_ ⟨g⟩ q
 unfold SI DV
 exact⟨p,[],rfl,fun w=>w (R.own.none hp),.inl AG,by unfold DKV;rfl⟩
theorem NY {p:Addr}{ks:List (Key×V)}{kvs:List (PyData×PyData)}(oa:OA K H M) (h:H p=b5J) (hd:DKV K H M.W kvs ks) :
   OA K (upd H p (.dK ks)) (M.put p (.d kvs))/\Step K M (M.put p (.d kvs)) H (upd H p (.dK ks)):=by
 have hM:=oa.none h
 have g:Grow K M.W (M.put p (.d kvs)).W H (upd H p (.dK ks)):=⟨fun b u e _=>.inl (by rw[AF (AV e h)];exact e),fun b w=>by
   by_cases hb:b=p
   · subst hb;exact .inr h
   · left;unfold Own.W at w ⊢;rw[yH hb] at w;exact w⟩
 refine⟨fun a o e=>?_,⟨g⟩⟩
 by_cases ha:a=p
 · subst ha;rw[zU] at e;cases e;exact⟨ks,AG,hd.grow g⟩
 · rw[yH ha] at e
   have q:=oa a o e
   cases o with
   | l ds=>obtain⟨vs,q1,q2⟩:=q;exact⟨vs,by rw[AF ha];exact q1,q2.grow g⟩
   | d kvs=>obtain⟨vs,q1,q2⟩:=q;exact⟨vs,by rw[AF ha];exact q1,q2.grow g⟩
   | x C fs=>obtain⟨vs,q1,q2⟩:=q;exact⟨vs,by rw[AF ha];exact q1,q2.grow g⟩
theorem EK {p:Addr}{ks:List (Key×V)}{kvs:List (PyData×PyData)}{o:MO}(oa:OA K H M) (h:M p=some o) (hd:DKV K H M.W kvs ks) :
   OA K (upd H p (.dK ks)) (M.put p (.d kvs))/\Step K M (M.put p (.d kvs)) H (upd H p (.dK ks)):=by
 have hw:∀b,(M.put p (.d kvs)).W b->M.W b:=fun b w=>by
   unfold Own.W at w ⊢
   by_cases hb:b=p
   · subst hb;rw[h];simp
   · rw[yH hb] at w;exact w
 have g:Grow K M.W (M.put p (.d kvs)).W H (upd H p (.dK ks)):=⟨fun b u e nw=>.inl (by
   rw[AF (by rintro rfl;exact nw (by unfold Own.W;rw[h];simp))];exact e),fun b w=>.inl (hw b w)⟩
 refine⟨fun a o e=>?_,⟨g⟩⟩
 by_cases ha:a=p
 · subst ha;rw[zU] at e;cases e;exact⟨ks,AG,hd.grow g⟩
 · rw[yH ha] at e
   have q:=oa a o e
   cases o with
   | l ds=>obtain⟨vs,q1,q2⟩:=q;exact⟨vs,by rw[AF ha];exact q1,q2.grow g⟩
   | d kvs=>obtain⟨vs,q1,q2⟩:=q;exact⟨vs,by rw[AF ha];exact q1,q2.grow g⟩
   | x C fs=>obtain⟨vs,q1,q2⟩:=q;exact⟨vs,by rw[AF ha];exact q1,q2.grow g⟩
end
structure Has (P:Program) (w:World) (K:Frg) (mg:Str->Option Value) (base:Heap) (x:Str) (k:Nat) (ps:List Str) (S:FSp):Prop where
 ex:∃f fd,FnOk P w K mg base CX0 k f fd ps (spD K ps.length S)/\mg x=some (.ref f)/\a3J K (.ref f)=true/\Binds K fd ps []
theorem fF {X:Cx}{x:Str}{k:Nat}{ps:List Str}{S:FSp}{e:Expr}{es:List Expr}{t:TA}{p pos:Pos}(h:Has X.prog X.w X.K X.mg X.base x k ps S) (hr:Room k X.A) (hg:Gl X x) (ha:PA X (e::es) t)
   (hdb:(x==("__debug__":Str))=false:=by decide) (he:starEach (e::es) X.env=(false,eval e X.env)::starEach es X.env:=by rfl) (hpl:(backTo pos (starEach es X.env)).any (·.1)=false:=by rfl) :
   PE X (.Call (.Name x p) (e::es) [] pos) (YN (spD X.K ps.length S) [] E0 t):=by
 obtain⟨f,fd,F,hm,hk,hb⟩:=h.ex
 exact k8 F hr hg hm hk hb .nil tU ha hdb he hpl
theorem lB {X:Cx}{x z:Str}{pos:Pos}(hg:Gl X x) (h:∃t,X.mg x=some (.str z t)) (hd:(x==("__debug__":Str))=false:=by decide):PE X (.Name x pos) (tC (.str z)):=by
 obtain⟨t,h⟩:=h
 exact RT hg h ⟨t,rfl⟩ hd
theorem lC {X:Cx}{x:Str}{z:Int}{pos:Pos}(hg:Gl X x) (h:∃t,X.mg x=some (.int z t)) (hd:(x==("__debug__":Str))=false:=by decide):PE X (.Name x pos) (tC (.int z)):=by
 obtain⟨t,h⟩:=h
 exact RT hg h ⟨t,rfl⟩ hd
section
variable {X:Cx}{K:Frg}
theorem kIx (h:X.K=K):IxR X (aR K):=h▸rA
theorem kIn (h:X.K=K):OpR X (compareOp .In) (eR K):=h▸rC
theorem kEq (h:X.K=K) (hu:X.A.units+64 < cLine):OpR X (compareOp .Eq) (PV K false):=h▸eB hu
theorem kNe (h:X.K=K) (hu:X.A.units+64 < cLine):OpR X (compareOp .NotEq) (PV K true):=h▸eF hu
def lD (K:Frg):List V->Hp->VK->Prop:=fun xs H Q=>∃x n,xs=[x]/\dH K x H n/\Q (.int (n:Nat)) H
def oG (K:Frg):List V->Hp->VK->Prop:=fun xs H Q=>∃(p:Addr) (bs:List Bool),xs=[.ref p]/\SqL K H p (bs.map V.bl)/\Q (.bl (bs.all id)) H
def oH (K:Frg):List V->Hp->VK->Prop:=fun xs H Q=>∃(p:Addr) (bs:List Bool),xs=[.ref p]/\SqL K H p (bs.map V.bl)/\Q (.bl (bs.any id)) H
theorem vM (h:X.K=K):B2 X (.builtin "len") (lD K):=h▸dI
theorem vN (h:X.K=K) (hc:X.calm=true):B2 X (.builtin "all") (oG K):=h▸dZ hc
theorem vO (h:X.K=K) (hc:X.calm=true):B2 X (.builtin "any") (oH K):=h▸e7 hc
theorem vP (h:X.K=K):B2 X (.builtin "isinstance") (fD K):=h▸aT
theorem uB {tg l:Expr}{tl:TE}(h:X.K=K) (hl:PE X l tl):PI X tg l (eT K tl):=h▸rD hl
theorem oI {P:Program}{w:World}{mg:Str->Option Value}{base:Heap}{x:Str}{k:Nat}{ps:List Str}{S:FSp}{e:Expr}{es:List Expr}{t:TA}{p pos:Pos}(hK:X.K=K) (hP:X.prog=P) (hw:X.w=w) (hmg:X.mg=mg) (hbs:X.base=base)
   (h:Has P w K mg base x k ps S) (hr:Room k X.A) (hg:Gl X x) (ha:PA X (e::es) t)
   (hdb:(x==("__debug__":Str))=false:=by decide) (he:starEach (e::es) X.env=(false,eval e X.env)::starEach es X.env:=by rfl) (hpl:(backTo pos (starEach es X.env)).any (·.1)=false:=by rfl) :
   PE X (.Call (.Name x p) (e::es) [] pos) (YN (spD K ps.length S) [] E0 t):=by
 subst hK hP hw hmg hbs
 exact fF h hr hg ha hdb he hpl
variable {o e:Expr}{es:List Expr}{to:TE}{t:TA}{name:Str}{apos cpos:Pos}{T id:String}{r:V->List V->Hp->VK->Prop}
theorem kBm (h:X.K=K) (pa:PlainAttrs T) (slot:Slot T name id) (hty:typeOf (.builtin id)=pure (.type "method_descriptor")) (hm:MtR X id r) (ho:PE X o to) (ha:PA X (e::es) t)
   (hbase:attributeBase o name X.env (eval o X.env)=eval o X.env:=by rfl)
   (hfew:((backTo cpos (starEach (e::es) X.env)).all (fun x=>!x.1)&&(backToKw cpos (keywordEach [] X.env)).all (fun x=>x.1.isSome)
     && decide ((e::es).length+([]:List Keyword).length+(if ([]:List Keyword).isEmpty then 0 else 1) < 30))=true:=by rfl)
   (hline:(apos.endLine==cpos.line)=true:=by rfl) (hs:starEach (e::es) X.env=(false,eval e X.env)::starEach es X.env:=by rfl) (hplain:(backTo cpos (starEach es X.env)).any (·.1)=false:=by rfl) :
   PE X (.Call (.Attribute o name apos) (e::es) [] cpos) (tBM K T r to t):=h▸tN pa slot hty hm ho ha hbase hfew hline hs hplain
end
section
variable {K:Frg}{M:Own}{Q:DS->Own->Prop}
theorem Z6 {z:Str}(hz:z.length<=sizeLine) (q:Q (.d (.int z.length)) M):DR K (lD K) [.d (.str z)] M Q:=kY hz q
theorem Z7 {ds:List PyData}(q:Q (.d (.int ds.length)) M):DR K (lD K) [.d (.list ds)] M Q:=kZ q
theorem CO {ds:List PyData}(q:Q (.d (.int ds.length)) M):DR K (lD K) [.d (.tuple ds)] M Q:=l0 q
theorem fG {bs:List Bool}(q:Q (.d (.bool (bs.all id))) M):DR K (oG K) [.d (.list (bs.map .bool))] M Q:=r8 q
theorem rE {bs:List Bool}(q:Q (.d (.bool (bs.any id))) M):DR K (oH K) [.d (.list (bs.map .bool))] M Q:=r9 q
end
end DL
namespace L2
open PySem PySem.Spec PyProof.Rows
section
variable {X:Cx}
theorem fH:∀{its:List Value}{ss:List Str},StrsAre its ss->Vals (ss.map V.str) its
 | _,_,.nil=>.nil
 | _,_,.cons y t r=>.cons ⟨t,rfl⟩ (fH r)
def fI (K:Frg):List V->Hp->VK->Prop:=fun xs H Q=>∃(p:Addr) (ss:List Str),xs=[.ref p]/\SqL K H p (ss.map V.str)/\ss.length < 64/\∀(ss':List Str) (q:Addr),ss'.Perm ss->sortedS ss'=true->H q=none->Q (.ref q) (upd H q (.lst (ss'.map V.str)))
theorem X2:B2 X (.builtin "sorted") (fI X.K):=by
 intro pins s σ H xs us Q I r h
 obtain⟨p,ss,rfl,hp,h64,q⟩:=h
 obtain⟨u,rfl,ru⟩:=DN r
 cases ru
 obtain⟨its,rv,pl,hz⟩:=I.list hp
 have hS:=YW rv
 have el:=rv.length
 rw[zX] at el
 refine sorted_strs pl.isList hS (by omega) fun out ss' h1 h2 h3=>?_
 obtain⟨e,he⟩:=sortedAll_at s.heap its out
 have hn:H (s.heap.objs.size+1)=none:=I.hok.fresh (a8V _)
 have hlen:=h2.length_eq
 refine⟨.ref (s.heap.objs.size+1),_,I.laid (t':=s.toks) (o:=.lst (ss'.map V.str)) (fun b o eb=>sortedAll_old eb) (a8V _) ?_,rfl,q ss' _ h2 h3 hn⟩
 refine⟨by rw[zX,hlen];exact zN (xR h64) (by decide),out.toList,e,fH h1,?_⟩
 have he':=he
 simpa [seqObj] using he'
end
end L2
namespace DL
open PySem PySem.Spec L2
section
variable {X:Cx}{K:Frg}
def NZ (K:Frg):List V->Hp->VK->Prop:=fun xs H Q=>∃p ys,xs=[.ref p]/\((SqL K H p ys/\∀l,H l=none->Q (.ref l) (upd H l (.tup ys)))∨(SqT K H p ys/\Q (.ref p) H))
theorem rF (h:X.K=K):B2 X (.type "tuple") (NZ K):=h▸PU
def Z8 (K:Frg):List V->Hp->VK->Prop:=fun xs H Q=>∃p ys,xs=[.ref p]/\(SqL K H p ys∨SqT K H p ys)/\∀l,H l=none->Q (.ref l) (upd H l (.lst ys))
theorem uC (h:X.K=K):B2 X (.type "list") (Z8 K):=h▸S0
end
section
variable {K:Frg}{M:Own}{Q:DS->Own->Prop}{ρ:List (Option DS)}{H:Hp}
theorem IV {ds:List PyData}(q:Q (.d (.tuple ds)) M):DR K (NZ K) [.d (.list ds)] M Q:=fun H vs QQ oa s k=>by
 obtain⟨v,r,rfl,h1,h2⟩:=s
 cases h2
 unfold SI DV at h1
 obtain⟨a,vs,rfl,hl,hd⟩:=h1
 refine⟨a,vs,rfl,.inl ⟨hl.sq,fun p hp=>?_⟩⟩
 have g:Grow K M.W M.W H (upd H p (.tup vs)):=AW _ hp
 refine k _ _ (.d (.tuple ds)) M (oa.new hp) ?_ ⟨g⟩ q
 unfold SI DV
 exact⟨p,vs,rfl,.inl ⟨fun w=>w (oa.none hp),.inl AG⟩,hd.grow g⟩
theorem fJ {ds:List PyData}(q:Q (.d (.list ds)) M):DR K (Z8 K) [.d (.tuple ds)] M Q:=fun H vs QQ oa s k=>by
 obtain⟨v,r,rfl,h1,h2⟩:=s
 cases h2
 unfold SI DV at h1
 obtain⟨a,vs,rfl,hl,hd⟩:=h1
 refine⟨a,vs,rfl,.inr hl.sq,fun p hp=>?_⟩
 have g:Grow K M.W M.W H (upd H p (.lst vs)):=AW _ hp
 refine k _ _ (.d (.list ds)) M (oa.new hp) ?_ ⟨g⟩ q
 unfold SI DV
 exact⟨p,vs,rfl,.inl ⟨fun w=>w (oa.none hp),.inl AG⟩,hd.grow g⟩
theorem MA {W:Addr->Prop}:∀{bs:List Str},DVs K H W (bs.map a1X) (bs.map V.str)
 | []=>DVs.nil
 | b::bs=>DVs.cons (by unfold DV;rfl) MA
def DJ:PyData->Bool | .none=>true | _=>false
theorem rG {d:PyData}(q:Q (.d (.bool (DJ d))) M):D2 K (fun x y H Q=>y = .non/\Q (.bl (decide (x = .non))) H) (.d d) (.d .none) M Q:=fun H v u QQ oa s1 s2 k=>by
 refine⟨eO s2,k _ H (.d (.bool (DJ d))) M oa ?_ Step.refl q⟩
 cases d <;> unfold SI DV at s1
 · rw[s1];exact AJ
 · rw[s1];exact AJ
 · rw[s1];exact AJ
 · rw[s1];exact AJ
 · obtain⟨a,_,rfl,_⟩:=s1;exact AJ
 · obtain⟨a,_,rfl,_⟩:=s1;exact AJ
 · obtain⟨a,_,rfl,_⟩:=s1;exact AJ
theorem lE {d:PyData}(q:Q (.d (.bool (!DJ d))) M):D2 K (fun x y H Q=>y = .non/\Q (.bl (!decide (x = .non))) H) (.d d) (.d .none) M Q:=fun H v u QQ oa s1 s2 k=>by
 refine⟨eO s2,k _ H (.d (.bool (!DJ d))) M oa ?_ Step.refl q⟩
 cases d <;> unfold SI DV at s1
 · rw[s1];exact AJ
 · rw[s1];exact AJ
 · rw[s1];exact AJ
 · rw[s1];exact AJ
 · obtain⟨a,_,rfl,_⟩:=s1;exact AJ
 · obtain⟨a,_,rfl,_⟩:=s1;exact AJ
 · obtain⟨a,_,rfl,_⟩:=s1;exact AJ
end
def DGs (K:Frg) (g:TGs) (ds:List PyData) (ρ:List (Option DS)) (M:Own) (P:List (Option DS)->Own->Prop):Prop:=
 ∀(σ:St) (H:Hp) (vs:List V) (QQ:St->Hp->Prop),Rel K M ρ σ H->DVs K H M.W ds vs->(∀ρ' M' σ' H',Rel K M' ρ' σ' H'->Step K M M' H H'->P ρ' M'->QQ σ' H')->g vs σ H QQ
section
variable {K:Frg}{M:Own}{ρ:List (Option DS)}{P:List (Option DS)->Own->Prop}
theorem lG (h:P ρ M):DGs K pH [] ρ M P:=fun σ H vs QQ R hd k=>by
 unfold DVs at hd
 subst hd
 exact⟨rfl,k ρ M σ H R Step.refl h⟩
theorem fK {i:Nat}{g:TGs}{d:PyData}{ds:List PyData}(h:DGs K g ds (ρ.set i (some (.d d))) M P):DGs K (YK (NL i) g) (d::ds) ρ M P:=fun σ H vs QQ R hd k=>by
 unfold DVs at hd
 obtain⟨v,r,rfl,h1,h2⟩:=hd
 exact⟨v,r,rfl,h (σ.set i (some v)) H r QQ (R.set (x:=.d d) h1 i) h2 k⟩
theorem rH {n:Nat}{g:TGs}{ds:List PyData}(hn:ds.length=n) (h:DGs K g ds ρ M P):DG K (jX K n g) (.tuple ds) ρ M P:=fun σ H v QQ R dv k=>by
 unfold DV at dv
 obtain⟨a,vs,rfl,hl,hd⟩:=dv
 exact⟨a,vs,rfl,hl.sq,by rw[hd.length];exact hn,h σ H vs QQ R hd k⟩
def lH (g:TGs) (T:List Nat):Prop:=(∀(vs:List V) (σ:St) (H:Hp) (Q Q':St->Hp->Prop),(∀a b,Q a b->Q' a b)->g vs σ H Q->g vs σ H Q') /\
 (∀(vs:List V) (σ:St) (H:Hp) (QQ:St->Hp->Prop),g vs σ H QQ->g vs σ H fun σ2 H2=>(∀i,i∉T->σ2[i]?=σ[i]?)/\QQ σ2 H2)
theorem O0:lH pH []:=⟨fun vs σ H Q Q' m ⟨e,h⟩=>⟨e,m _ _ h⟩,fun vs σ H QQ ⟨e,h⟩=>⟨e,fun _ _=>rfl,h⟩⟩
theorem CF {i:Nat}{g:TGs}{T:List Nat}(hg:lH g T):lH (YK (NL i) g) (i::T):=by
 refine⟨fun vs σ H Q Q' m ⟨v,r,e,h⟩=>⟨v,r,e,hg.1 r _ H Q Q' m h⟩,fun vs σ H QQ ⟨v,r,e,h⟩=>⟨v,r,e,?_⟩⟩
 refine hg.1 r _ H _ _ (fun σ2 H2 ⟨h1,h2⟩=>⟨fun j hj=>?_,h2⟩) (hg.2 r (σ.set i (some v)) H QQ h)
 rw[h1 j fun z=>hj (yV _ z),b1J (by rintro rfl;exact hj a1Z)]
theorem O1 {n:Nat}{g:TGs}{T:List Nat}(hg:lH g T):QS (jX K n g) T:=fun v σ H QQ ⟨a,xs,e,hs,hl,h⟩=>
 ⟨a,xs,e,hs,hl,hg.1 xs σ H _ _ (fun σ2 H2 ⟨h1,h2⟩=>h2 h1) (hg.2 xs σ H _ h)⟩
end
end DL
namespace L2
open PySem PySem.Spec PyProof.Rows
section
variable {X:Cx}{pins:List (Addr×Obj)}{σ:St}{H:Hp}{s:Shared}{h':Heap}
theorem Inv.turnedT {ch:List Addr}{T:Addr}{ys:List V}{t':Nat}(I:Inv X pins σ H s) (k:∀b o,b∉ch->s.heap.get? b=some o->h'.get? b=some o) (hn:∀b∈ch,H b=none)
   (hch:∀b∈ch,(b∈X.ex∨X.s₀.heap.objs.size<=b)/\b≠X.env.locals/\(∀x c,X.env.cells.lookup x=some c->c≠b)/\∀p∈X.pn++pins,p.1≠b)
   (hT:s.heap.objs.size<=T) (new:ObjOk X.prog X.w (upd H T (.tup ys)) h' T (.tup ys)):Inv X pins σ (upd H T (.tup ys)) { s with heap:=h',toks:=t' }:=by
 have hTn:H T=none:=I.hok.fresh hT
 have nch:∀b u,H b=some u->b∉ch:=fun b u e z=>by rw[hn b z] at e;cases e
 refine I.step (g':=s.gens) (d':=s.drawn) (ch:=ch) hch (fun b o _ _ hc e _=>k b o hc e) (fun b o _ _ hc e _=>⟨o.slots,k b o hc e⟩) (fun b o hc e n=>?_)
   (fun b o hc e=>⟨o,k b o hc e⟩) (fun b xs e=>?_) (fun b o u e=>?_) (fun b ps e=>⟨#[],?_⟩) (fun m hm=>?_) (fun b u e=>?_) I.bare
 · rw[AF (zC (zP (zM e) hT))];exact n
 · rw[AF (AV e hTn)];exact e
 · rw[AF (AV e hTn)];exact e
 · rw[AF (AV e hTn),e];simp
 · obtain⟨o,es,ep,ho,r⟩:=hm
   exact⟨o,es,ep,k _ o (fun z=>(hch _ z).2.1 rfl) ho,r⟩
 · by_cases hb:b=T
   · subst hb;rw[AG] at e;cases e;exact new
   · rw[AF hb] at e
     refine(I.hok b u e).stay (fun c v hc q=>k c v ?_ q) (fun c q=>by rw[AF (AV q hTn)];exact q) fun c xs q=>by rw[AF (AV q hTn)];exact q
     rcases hc with z | z
     · rw[z];exact nch b u e
     · exact nch c _ z
theorem Inv.turnedL {ch:List Addr}{t':Nat}(I:Inv X pins σ H s) (k:∀b o,b∉ch->s.heap.get? b=some o->h'.get? b=some o) (hn:∀b∈ch,H b=none)
   (hch:∀b∈ch,(b∈X.ex∨X.s₀.heap.objs.size<=b)/\b≠X.env.locals/\(∀x c,X.env.cells.lookup x=some c->c≠b)/\∀p∈X.pn++pins,p.1≠b):Inv X pins σ H { s with heap:=h',toks:=t' }:=by
 have nch:∀b u,H b=some u->b∉ch:=fun b u e z=>by rw[hn b z] at e;cases e
 refine I.step (g':=s.gens) (d':=s.drawn) (ch:=ch) hch (fun b o _ _ hc e _=>k b o hc e) (fun b o _ _ hc e _=>⟨o.slots,k b o hc e⟩) (fun b o hc e n=>n)
   (fun b o hc e=>⟨o,k b o hc e⟩) (fun b xs e=>e) (fun b o u e=>e) (fun b ps e=>⟨#[],by rw[e];simp⟩) (fun m hm=>?_) (fun b u e=>?_) I.bare
 · obtain⟨o,es,ep,ho,r⟩:=hm
   exact⟨o,es,ep,k _ o (fun z=>(hch _ z).2.1 rfl) ho,r⟩
 · refine(I.hok b u e).stay (fun c v hc q=>k c v ?_ q) (fun c q=>q) fun c xs q=>q
   rcases hc with z | z
   · rw[z];exact nch b u e
   · exact nch c _ z
theorem oJ {a z:Addr}{xs:List V}(I:Inv X pins σ H s) (hf:JP X pins H z) (h:SqL X.K H a xs):a≠z:=by
 rintro rfl
 rcases h with h | ⟨o,its,n,hk,_⟩
 · rcases h with h | ⟨o',h⟩ <;> rw[hf.1] at h <;> cases h
 · have e:=I.ok.mod.kin a o hk
   rcases hf.2.2.2.1 with z | z
   · exact I.ok.noex a o e z
   · exact absurd (zP (zM e) (zN I.ok.bsz z)) (yF _)
end
end L2
namespace DL
open PySem PySem.Spec L2
section
variable {K:Frg}{M:Own}{ρ:List (Option DS)}{QI:List PyData->Own->Prop}
def UJ (as bs:List PyData):List PyData:=(as.zip bs).map fun p=>.tuple [p.1,p.2]
end
end DL
namespace HT
open PySem PySem.Spec PyProof.Rows
section
variable {prog:Program}{w:World}{A:Around}{E:Value->Shared->Prop}{s:Shared}
theorem getItem_tuple_whole {t sl:Addr}{items:Array Value}{vl vu:Value}{lo hi:Option Int}{Q:Value->Shared->Prop}(ht:IsTup s.heap t items) (hs:s.heap.IsSliceOf sl vl vu .none) (pl:IsPart vl lo) (pu:IsPart vu hi)
   (hw:sIx items.size 0 lo=0/\sIx items.size items.size hi=items.size) (h:Q (.ref t) s):wpAny (model prog w) A (getItem (.ref t) (.ref sl)) Q E s:=by
 obtain⟨os,hos,hcs,hds⟩:=id hs
 have hTs:s.TypeIs (.ref sl) "slice" := ⟨os,hos,hcs⟩
 unfold getItem
 try with_reducible refine wpAny_holding ?_
 first | refine zZ (zY ?_) | skip
 refine zZ (wpAny_sequenceKey ht.typeIs (by decide) ?_)
 refine zZ (wpAny_callSpecial?_slot (name:=a0Q "__getitem__") ht.typeIs a6X
   (wpAny_call_entry a6X ht.typeIs entry_tuple_getitem ?_ (args_tuple_getitem _ _)))
 show wpAny _ _ (Builtin.Tuple.tupleItemsOf (.ref t) >>= _) _ _ s
 refine zZ (tupleItemsOf_ ht ?_)
 refine zZ (wpAny_typeOf hTs ?_)
 rw[if_pos (by decide)]
 refine zZ (FN hs pl pu ?_)
 have hno:((((sIx items.size 0 lo:Nat):Int)==0&&(1:Int)==1&&(sIx items.size items.size hi - sIx items.size 0 lo)==items.size)=true):=by
   rw[hw.1,hw.2];simp
 show wpAny _ _ (if (((sIx items.size 0 lo:Nat):Int)==0&&(1:Int)==1&&(sIx items.size items.size hi - sIx items.size 0 lo)==items.size)=true then _ else _) _ _ s
 rw[if_pos hno]
 refine zZ (m:=Builtin.Tuple.tupleIsExact _) (zZ (wpAny_typeOf ht.typeIs (zY ?_)))
 show wpAny _ _ (if true=true then _ else _) _ _ s
 rw[if_pos rfl]
 first
   | exact zZ (wpAny_rule (zZ (zY ⟨_,rfl,zY h⟩)))
   | exact zZ (wpAny_rule (zY ⟨_,rfl,zY h⟩))
   | exact zZ (wpAny_rule (zZ (zY (zY ⟨_,rfl,zY h⟩))))
end
end HT
namespace L2
open PySem PySem.Spec PyProof.Rows
section
variable {X:Cx}
def oK (K:Frg):V->Option Int->Option Int->Hp->VK->Prop:=fun x lo hi H Q=>∃a xs,x = .ref a/\SqT K H a xs/\(JQ xs lo hi=xs->Q (.ref a) H)/\∀p,H p=none->Q (.ref p) (upd H p (.tup (JQ xs lo hi)))
theorem lI:SlR X (oK X.K):=by
 intro pins s σ H x v vl vu lo hi sl Q I rx hs pl pu h
 obtain⟨a,xs,rfl,hx,q1,q2⟩:=h
 cases rx
 obtain⟨its,r,ht,hz⟩:=I.tuple hx
 have hlen:its.toArray.size=xs.length:=by rw[zJ];exact r.length.symm
 by_cases hw:HT.sIx xs.length 0 lo=0/\HT.sIx xs.length xs.length hi=xs.length
 · refine⟨"tuple", _,PyProof.Rows.slot_tuple_getitem.lookup,ht.typeIs,?_⟩
   refine HT.getItem_tuple_whole ht hs pl pu (by rw[hlen];exact hw) ⟨.ref a,H,I,rfl,q1 ?_⟩
   unfold JQ
   rw[hw.1,hw.2];simp
 · exact pX pins s σ H (.ref a) (.ref a) vl vu lo hi sl Q I rfl hs pl pu ⟨a,xs,rfl,hx,hw,q2⟩
def fL (K:Frg):R2:=fun x y H Q=>∃a b xs ys,x = .ref a/\y = .ref b/\SqT K H a xs/\SqT K H b ys/\xs.length+ys.length<=sizeLine /\
 (xs=[]->Q (.ref b) H)/\(ys=[]->Q (.ref a) H)/\(∀p,H p=none->Q (.ref p) (upd H p (.tup (xs++ys))))
theorem fM:OpR X (binaryOp .Add) (fL X.K):=by
 intro pins s σ H x y v u Q I rx ry h
 obtain⟨t,b,xs,ys,rfl,rfl,hx,hy,hz,q0,q1,q2⟩:=h
 cases rx
 cases ry
 obtain⟨its,r,ht,_⟩:=I.tuple hx
 obtain⟨its2,r2,hb,_⟩:=I.tuple hy
 have e1:=r.length
 have e2:=r2.length
 obtain⟨⟨cls,dd,data,sl⟩,ho,hc,n,hd⟩:=id ht
 obtain⟨⟨cls2,dd2,data2,sl2⟩,ho2,hc2,n2,hd2⟩:=id hb
 dsimp only at hc hd hc2 hd2
 subst hc hd hc2 hd2
 have e:its.toArray++its2.toArray=(its++its2).toArray:=by simp
 by_cases hv:its=[]
 · have hx0:xs=[]:=by cases r with | nil=>rfl | cons _ _=>cases hv
   exact concat_meets ⟨_,ho,rfl⟩ ⟨_,ho2,rfl⟩ noFill_tuple_add seq_tuple_add b9J b8W (b7K _ _)
     (tuple_addW0 t b its.toArray its2.toArray n n2 dd dd2 sl sl2 (by simp[hv])) ⟨ho,ho2,⟨.ref b,H,I,rfl,q0 hx0⟩⟩
 · by_cases hw:its2=[]
   · have hy0:ys=[]:=by cases r2 with | nil=>rfl | cons _ _=>cases hw
     exact concat_meets ⟨_,ho,rfl⟩ ⟨_,ho2,rfl⟩ noFill_tuple_add seq_tuple_add b9J b8W (b7K _ _)
       (tuple_addW1 t b its.toArray its2.toArray n n2 dd dd2 sl sl2 (by simpa using hv) (by simp[hw])) ⟨ho,ho2,⟨.ref t,H,I,rfl,q1 hy0⟩⟩
   · refine concat_meets ⟨_,ho,rfl⟩ ⟨_,ho2,rfl⟩ noFill_tuple_add seq_tuple_add b9J b8W (b7K _ _)
       (tuple_addW2 t b its.toArray its2.toArray n n2 dd dd2 sl sl2 (by simpa using hv) (by simpa using hw) (by rw[zJ,zJ];omega)) ⟨ho,ho2,?_⟩
     rw[e]
     refine⟨.ref s.heap.objs.size,_,I.laid (t':=s.toks) (o:=.tup (xs++ys)) (fun b ob q=>zW _ q) (zR _) ?_,rfl,q2 _ I.fresh⟩
     exact⟨by rw[yY];exact hz,its++its2,r.append r2,IsTup.new _ _⟩
end
end L2
namespace DL
open PySem PySem.Spec L2
section
variable {X:Cx}{K:Frg}
def UK (K:Frg):R2:=fun x y H Q=>UI K x y H Q∨fL K x y H Q
theorem uD (h:X.K=K):OpR X (binaryOp .Add) (UK K):=h▸l6.or fM
def lJ (K:Frg):V->Option Int->Option Int->Hp->VK->Prop:=fun x lo hi H Q=>l7 K x lo hi H Q∨oK K x lo hi H Q
theorem vQ (h:X.K=K):SlR X (lJ K):=h▸rB.or lI
end
section
variable {K:Frg}{M:Own}{Q:DS->Own->Prop}
theorem fN {i j:Int}(q:Q (.d (.int (i+j))) M):D2 K (UK K) (.d (.int i)) (.d (.int j)) M Q:=EJ (eZ q)
theorem O2 {i j:Str}(hz:i.length+j.length<=sizeLine) (q:Q (.d (.str (i++j))) M):D2 K (UK K) (.d (.str i)) (.d (.str j)) M Q:=EJ (fA hz q)
theorem O3 {a b:List PyData}(hz:a.length+b.length<=sizeLine) (q:Q (.d (.list (a++b))) M):D2 K (UK K) (.d (.list a)) (.d (.list b)) M Q:=EJ (fB hz q)
theorem FP {as bs:List PyData}(hz:as.length+bs.length<=sizeLine) (q:Q (.d (.tuple (as++bs))) M):D2 K (UK K) (.d (.tuple as)) (.d (.tuple bs)) M Q:=G7 fun H v u QQ oa s1 s2 k=>by
 have s1':=s1
 have s2':=s2
 unfold SI DV at s1 s2
 obtain⟨a,vs,rfl,hl,hd⟩:=s1
 obtain⟨b,us,rfl,hl2,hd2⟩:=s2
 refine⟨a,b,vs,us,rfl,rfl,hl.sq,hl2.sq,by rw[hd.length,hd2.length];exact hz,fun e=>?_,fun e=>?_,fun p hp=>?_⟩
 · have:as=[]:=by have:=hd.length;rw[e] at this;exact List.length_eq_zero_iff.mp this.symm
   subst this
   exact k _ H (.d (.tuple ([]++bs))) M oa s2' Step.refl q
 · have:bs=[]:=by have:=hd2.length;rw[e] at this;exact List.length_eq_zero_iff.mp this.symm
   subst this
   rw[a8X] at q
   exact k _ H (.d (.tuple as)) M oa s1' Step.refl q
 · have g:Grow K M.W M.W H (upd H p (.tup (vs++us))):=AW _ hp
   refine k _ _ (.d (.tuple (as++bs))) M (oa.new hp) ?_ ⟨g⟩ q
   unfold SI DV
   exact⟨p,_,rfl,.inl ⟨fun w=>w (oa.none hp),.inl AG⟩,(hd.append hd2).grow g⟩
theorem KA {z:Str}{lo hi:Option Int}(hz:z.length<=sizeLine) (q:Q (.d (.str (a0J z lo hi))) M):DSl K (lJ K) (.d (.str z)) lo hi M Q:=fun H v QQ oa s1 k=>.inl (fC hz q H v QQ oa s1 k)
theorem D5 {ds:List PyData}{lo hi:Option Int}(q:Q (.d (.list (E4 ds lo hi))) M):DSl K (lJ K) (.d (.list ds)) lo hi M Q:=fun H v QQ oa s1 k=>.inl (aS q H v QQ oa s1 k)
theorem HR {ds:List PyData}{lo hi:Option Int}(q:Q (.d (.tuple (E4 ds lo hi))) M):DSl K (lJ K) (.d (.tuple ds)) lo hi M Q:=fun H v QQ oa s1 k=>.inr (by
 have s1':=s1
 unfold SI DV at s1
 obtain⟨a,vs,rfl,hl,hd⟩:=s1
 have key:DVs K H M.W (E4 ds lo hi) (JQ vs lo hi):=by
   unfold E4 JQ
   rw[hd.length]
   exact(hd.drop _).take _
 refine⟨a,vs,rfl,hl.sq,fun e=>?_,fun p hp=>?_⟩
 · refine k _ H (.d (.tuple (E4 ds lo hi))) M oa ?_ Step.refl q
   unfold SI DV
   exact⟨a,vs,rfl,hl,by rw[← e];rw[e] at key;rw[e];exact key⟩
 · have g:Grow K M.W M.W H (upd H p (.tup (JQ vs lo hi))):=AW _ hp
   refine k _ _ (.d (.tuple (E4 ds lo hi))) M (oa.new hp) ?_ ⟨g⟩ q
   unfold SI DV
   exact⟨p,_,rfl,.inl ⟨fun w=>w (oa.none hp),.inl AG⟩,key.grow g⟩)
end
theorem X3 {X:Cx}{K:Frg}{pos:Pos}{es:List Expr}{k:Nat}{t:TGs}{n:Nat}(hK:X.K=K) (hc:X.calm=true) (h:PGs X es t)
   (hn:(assignEach es X.env).length=n:=by rfl) (hst:(assignEach es X.env).findIdx? (·.1)=none:=by rfl):PG X (.Tuple es k pos) (jX K n t):=hK▸dA hc h hn hst
end DL
namespace DL
open PySem PySem.Spec L2
def fn1 (pre:PyData->Prop) (f:PyData->PyData):FSp:=⟨fun xs _=>∃d,xs=[.d d]/\pre d,fun xs M y M'=>∀d,xs=[.d d]->y = .d (f d)/\M'=M⟩
theorem BC {pre:PyData->Prop}{f:PyData->PyData}{d:PyData}{M:Own}{Q:DS->Own->Prop}(p:pre d) (q:Q (.d (f d)) M):[DS.d d].length=1/\(fn1 pre f).pre [.d d] M/\∀x M',(fn1 pre f).post [.d d] M x M'->Q x M':=
 ⟨rfl,⟨d,rfl,p⟩,fun x M' h=>by obtain⟨rfl,rfl⟩:=h d rfl;exact q⟩
def F4 (c:Nat):Bool:=decide (97<=c)&&decide (c<=122)
def LF:PyData->Bool | .int _=>true | _=>false
def C9:PyData->Bool | .str z=>decide (1<=z.cps.size)&&decide (z.cps.size<=8)&&z.cps.toList.all F4 | _=>false
def JU:PyData->Bool | .int i=>decide (0<=i)&&decide (i<=999) | _=>false
def okS (z:Str):Prop:=z.cps.size<=5000/\∀c∈z.cps.toList,c < 128
def okD:PyData->Prop | .str z=>okS z | _=>True
def GA:FSp:=fn1 (fun _=>True) fun d=>.bool (LF d)
def LG:FSp:=fn1 okD fun d=>.bool (C9 d)
def JV:FSp:=fn1 (fun _=>True) fun d=>.bool (JU d)
def IW (d:PyData) (lo hi:Int):Bool:=match d with | .int i=>decide (lo<=i)&&decide (i<=hi) | _=>false
def CK:FSp:=⟨fun xs _=>∃(d:PyData) (lo hi:Int),xs=[.d d,.d (.int lo),.d (.int hi)],fun xs M y M'=>∀(d:PyData) (lo hi:Int),xs=[.d d,.d (.int lo),.d (.int hi)]->y = .d (.bool (IW d lo hi))/\M'=M⟩
theorem MB {d:PyData}{lo hi:Int}{M:Own}{Q:DS->Own->Prop}(q:Q (.d (.bool (IW d lo hi))) M):[DS.d d,.d (.int lo),.d (.int hi)].length=3/\CK.pre [.d d,.d (.int lo),.d (.int hi)] M/\∀x M',CK.post [.d d,.d (.int lo),.d (.int hi)] M x M'->Q x M':=
 ⟨rfl,⟨d,lo,hi,rfl⟩,fun x M' h=>by obtain⟨rfl,rfl⟩:=h d lo hi rfl;exact q⟩
theorem SE (d:PyData):IW d 0 999=JU d:=by cases d <;> rfl
theorem X4:∀c:Nat,c < 128->(!(a5Q (a0Q "abcdefghijklmnopqrstuvwxyz") ⟨#[c]⟩ 0 (a0Q "abcdefghijklmnopqrstuvwxyz").length 1).isEmpty)=F4 c:=by decide +kernel
def lK:PyData->Bool | .str z=>z.cps.toList.all F4 | _=>false
theorem aU (z:Str):((BL z).filter fun _=>true).map (fun d=>PyData.bool (lK d))=(z.cps.toList.map F4).map .bool:=by
 rw[List.filter_eq_self.mpr (by simp)]
 unfold BL
 rw[zD,zD]
 apply yM
 intro c hc
 simp[lK]
theorem X5 (l:List Nat) (f:Nat->Bool):(l.map f).all id=l.all f:=by simp
section
variable {K:Frg}{ρ:List (Option DS)}{M:Own}{D:EndsD}{t u:TS}
theorem GB (P:List (Option DS)->Own->Prop) (h:DSt K t ρ M { D with nx:=P }) (h2:∀ρ1 M1,P ρ1 M1->DSt K u ρ1 M1 D):DSt K (jT t u) ρ M D:=
 eL (kW h (fun ρ' M' p=>h2 ρ' M' p) (fun _ _ q=>q) (fun _ _ q=>q) (fun _ _ q=>q))
end
def AM (z:Str):Prop:=1<=z.cps.size/\z.cps.size<=8/\∀c∈z.cps.toList,F4 c=true
theorem vR {M:Own}{a:Addr}{ds:List PyData}{k:Int}{j:Nat}{F:Addr->List PyData->Nat->Prop}(m:M a=some (.l ds)) (e:ixN ds.length k=some j) (q:F a ds j) :
   ∃a' ds' k' j',DS.loc a = .loc a'/\DS.d (.int k) = .d (.int k')/\M a'=some (.l ds')/\ixN ds'.length k'=some j'/\F a' ds' j':=⟨a,ds,k,j,rfl,rfl,m,e,q⟩
theorem vT {xs:List DS}{ds:List PyData}{Q:List PyData->Prop}(e:PX xs=some ds) (h:ds.length<=sizeLine) (q:Q ds):∃ds,PX xs=some ds/\ds.length<=sizeLine/\Q ds:=⟨ds,e,h,q⟩
theorem lL {x y:Str}(h:x.cps.toList=y.cps.toList):x=y:=by
 obtain⟨⟨a⟩⟩:=x
 obtain⟨⟨b⟩⟩:=y
 simp at h
 subst h
 rfl
theorem fQ (n len:Nat):a3Z none (some (n:Int)) 1 len=a1V (min n len):=by
 unfold a3Z sliceRange
 have h1:¬((n:Int) < 0):=by omega
 have h2:max 0 (min (n:Int) (len:Int))=((min n len:Nat):Int):=by omega
 simp only[show(1:Int) > 0 by decide,if_true,h1,if_false,h2]
 have h3:(if (0:Int) < ((min n len:Nat):Int) then (((min n len:Nat):Int) - 0+1 - 1)/1 else 0).toNat=min n len:=by
   split
   · rw[Int.ediv_one];omega
   · omega
 rw[h3]
 apply b9X
 intro i
 rw[zF]
 by_cases h:i < min n len
 · simp[yA h]
 · simp[a7K (show(a1V (min n len)).length<=i by simp;omega)]
theorem aV (l:List Nat) (a:Array Nat) (m:Nat) (h:a.toList=l):(a1V m).filterMap (fun i=>a[i]?)=l.take m:=by
 induction m with
 | zero=>simp
 | succ m ih=>
   rw[List.range_succ,List.filterMap_append,ih,b0V]
   have e:a[m]?=l[m]?:=by rw[← h];simp
   simp only[a4J,List.filterMap_nil,e]
   cases l[m]? <;> simp
theorem GC (z:Str) (n:Nat):(a0J z none (some (n:Int))).cps.toList=z.cps.toList.take n:=by
 unfold a0J
 rw[fQ]
 have hl:z.length=z.cps.toList.length:=by simp[Str.length]
 split
 · rename_i h
   simp only[xZ,beq_self_eq_true,Bool.true_and,beq_iff_eq] at h
   rw[a9X (by rw[← hl];omega)]
 · show(List.filterMap _ _).toArray.toList=_
   rw[aV z.cps.toList z.cps _ rfl,List.toList_toArray,hl,b4J]
   omega
theorem aW {z:Str}{n:Nat}{c:Nat}(h:c∈(a0J z none (some (n:Int))).cps.toList):c∈z.cps.toList:=by
 rw[GC] at h;exact b5Z h
theorem AQ (x y:Str):(x++y).cps.toList=x.cps.toList++y.cps.toList:=by
 show(x.cps++y.cps).toList=_
 simp
theorem HS:(a0Q "abcdefghijklmnopqrstuvwxyz").length=26:=by decide +kernel
theorem fR {M:Own}{p A:Addr}{o o' x y:MO}(h:p≠A):(((M.put p o).put A x).put p o').put A y=(M.put p o').put A y:=by
 funext b
 unfold Own.put
 by_cases h1:b=A
 · simp[h1]
 · by_cases h2:b=p
   · simp[h2,h1,h]
   · simp[h1,h2]
theorem flt (l:List PyData):l.filter (fun _=>true)=l:=List.filter_eq_self.mpr (by simp)
theorem aX (z:Str):(BL z).length=z.cps.size:=by simp[BL]
theorem fS:(a0Q "abcdefghijklmnopqrstuvwxyz").cps.size=26:=by decide +kernel
theorem QU (z:Str) (l u:Option Int) {n:Nat}(h:z.length<=n):(a0J z l u).length<=n:=zN (Txt.slice_le z l u) h
theorem fT {c:Nat}(h:F4 c=true):c < 128:=by
 unfold F4 at h;simp at h;omega
theorem QV (s:Str):C9 (.str s)=(decide (1<=s.cps.size)&&decide (s.cps.size<=8)&&s.cps.toList.all F4):=rfl
theorem LH (s:Str):s.cps.size=s.cps.toList.length:=by simp
theorem fU {z:Str}(h:AM z):okD (.str z):=⟨by have:=h.2.1;omega,fun c hc=>fT (h.2.2 c hc)⟩
end DL
namespace DL
open PySem PySem.Spec L2
def sl (a b:Str):Bool:=b2J a.cps.toList b.cps.toList
theorem QW:∀a:List Nat,b2J a a=false
 | []=>rfl
 | a::r=>by simp[b2J,QW r]
theorem UL:∀a b c:List Nat,b2J a b=true->b2J b c=true->b2J a c=true
 | [],[],_,h,_=>by cases h
 | [],_::_,[],_,h=>by cases h
 | [],_::_,_::_,_,_=>rfl
 | _::_,[],_,h,_=>by cases h
 | _::_,_::_,[],_,h=>by cases h
 | a::r,b::t,c::u,h1,h2=>by
   simp only[b2J,Bool.or_eq_true,decide_eq_true_eq,a0V,beq_iff_eq] at h1 h2 ⊢
   rcases h1 with h1 | ⟨rfl,h1⟩
   · rcases h2 with h2 | ⟨rfl,h2⟩
     · exact .inl (xQ h1 h2)
     · exact .inl h1
   · rcases h2 with h2 | ⟨rfl,h2⟩
     · exact .inl h2
     · exact .inr ⟨rfl,UL r t u h1 h2⟩
theorem UM:∀a b:List Nat,b2J a b=false->b2J b a=false->a=b
 | [],[],_,_=>rfl
 | [],_::_,h,_=>by cases h
 | _::_,[],_,h=>by cases h
 | a::r,b::t,h1,h2=>by
   simp only[b2J,Bool.or_eq_false_iff,decide_eq_false_iff_not,Bool.and_eq_false_iff] at h1 h2
   have e:a=b:=by omega
   subst e
   simp at h1 h2
   rw[UM r t h1 h2]
theorem QX (a:Str):sl a a=false:=QW _
theorem O4 {a b c:Str}(h1:sl a b=true) (h2:sl b c=true):sl a c=true:=UL _ _ _ h1 h2
theorem O5 {a b:Str}(h1:sl a b=false) (h2:sl b a=false):a=b:=lL (UM _ _ h1 h2)
theorem UN {a b:Str}(h:sl a b=true):sl b a=false:=by
 cases e:sl b a with
 | false=>rfl
 | true=>have:=O4 h e;rw[QX] at this;cases this
theorem uE (a b:Str):decide (a.cps.toList < b.cps.toList)=sl a b:=PyProof.Rows.lt_meets a b
def Ris (ss:List Str):Prop:=ss.Pairwise fun a b=>sl a b=true
theorem aY:∀ss:List Str,xG ss=true->ss.Pairwise fun a b=>sl b a=false
 | [],_=>.nil
 | a::r,h=>by
   have key:∀(r:List Str) (p:Str),PyProof.Rows.risingS p r=true->(p::r).Pairwise fun a b=>sl b a=false:=by
     intro r
     induction r with
     | nil=>intro p _;simp
     | cons x r ih=>
       intro p h
       unfold PyProof.Rows.risingS at h
       simp only[a0V,Bool.not_eq_true'] at h
       have h2:=ih x h.2
       refine List.pairwise_cons.mpr ⟨fun c hc=>?_,h2⟩
       have hx:sl x p=false:=h.1
       rcases yX.mp hc with rfl | hc
       · exact hx
       · have hcx:sl c x=false:=(List.pairwise_cons.mp h2).1 c hc
         cases e:sl c p with
         | false=>rfl
         | true=>
           cases e2:sl x c with
           | true=>have:=O4 e2 e;rw[hx] at this;cases this
           | false=>have:=O5 hcx e2;subst this;rw[hx] at e;cases e
   exact key r a h
theorem X6 {ss:List Str}(h:xG ss=true) (nd:ss.Nodup):Ris ss:=by
 unfold Ris
 have h1:=aY ss h
 refine(List.Pairwise.and h1 nd).imp fun {a b} ⟨x,y⟩=>?_
 cases e:sl a b with
 | true=>rfl
 | false=>exact absurd (O5 e x) y
theorem Ris.nodup {ss:List Str}(h:Ris ss):ss.Nodup:=h.imp fun {a b} q=>by rintro rfl;rw[QX] at q;cases q
theorem BY {d:PyData}(h1:d.canLay0=true) (h2:d.depth<=64):zH d=true:=by
 unfold zH;rw[h1,decide_eq_true h2];rfl
theorem JW {ds:List PyData}(h:∀d∈ds,d.canLay0=true):b8Q ds=true:=by
 induction ds with
 | nil=>rfl
 | cons d r ih=>rw[b8Q,h d a1Z,ih fun x hx=>h x (yV _ hx)];rfl
theorem SG {ds:List PyData}{n:Nat}(h:∀d∈ds,d.depth<=n):a2X ds<=n:=by
 induction ds with
 | nil=>simp[a2X]
 | cons d r ih=>
   have h1:=h d a1Z
   have h2:=ih fun x hx=>h x (yV _ hx)
   simp only[a2X];omega
theorem EL {z:Str}(h:AM z):b6V z=true:=by
 unfold b6V
 rw[Array.all_eq_true']
 intro c hc
 have:=fT (h.2.2 c (by simpa using hc))
 simp;omega
theorem MU (ys:List Str):a0Z (.list (ys.map .str)) (.list [])=ys.isEmpty:=by
 cases ys with
 | nil=>rfl
 | cons y r=>simp[a0Z,PyData.eqvAll]
theorem O6:∀c∈(a0Q "abcdefghijklmnopqrstuvwxyz").cps.toList,F4 c=true:=by decide +kernel
theorem X7:(a0Q "abcdefghijklmnopqrstuvwxyz").cps.toList.Nodup:=by decide +kernel
end DL
namespace DL
open PySem PySem.Spec L2
theorem sIx_nat (n d k:Nat):HT.sIx n d (some (k:Int))=min k n:=HT.sIx_nat n d k
theorem HU (xs:List PyData) (k:Nat):E4 xs (some (k:Int)) none=xs.drop k:=by
 unfold E4
 rw[sIx_nat]
 show(xs.drop (min k xs.length)).take (xs.length - min k xs.length)=_
 rw[a9X (by rw[a5X];omega)]
 by_cases h:k<=xs.length
 · rw[b0W h]
 · rw[b5X (by omega),a3X (zR _),a3X (by omega)]
theorem SH (xs:List PyData) (k:Nat):E4 xs none (some (k:Int))=xs.take k:=by
 unfold E4
 rw[sIx_nat]
 show(xs.drop 0).take (min k xs.length - 0)=_
 rw[List.drop_zero,Nat.sub_zero,b4J];omega
theorem SJ (xs:List PyData) (a b:Nat):E4 xs (some (a:Int)) (some (b:Int))=(xs.take b).drop a:=by
 unfold E4
 rw[sIx_nat,sIx_nat,List.drop_take]
 by_cases h:a<=xs.length
 · rw[b0W h,b4J,a5X];omega
 · rw[a3X (show xs.length<=min a xs.length by omega),a3X (show xs.length<=a by omega)];simp
def fn2 (pre:PyData->PyData->Prop) (f:PyData->PyData->PyData):FSp:=⟨fun xs _=>∃a b,xs=[.d a,.d b]/\pre a b,fun xs M y M'=>∀a b,xs=[.d a,.d b]->y = .d (f a b)/\M'=M⟩
theorem fV {pre:PyData->PyData->Prop}{f:PyData->PyData->PyData}{a b:PyData}{M:Own}{Q:DS->Own->Prop}(p:pre a b) (q:Q (.d (f a b)) M):[DS.d a,.d b].length=2/\(fn2 pre f).pre [.d a,.d b] M/\∀x M',(fn2 pre f).post [.d a,.d b] M x M'->Q x M':=
 ⟨rfl,⟨a,b,rfl,p⟩,fun x M' h=>by obtain⟨rfl,rfl⟩:=h a b rfl;exact q⟩
def vU:PyData->PyData | .tuple (a::_)=>a | d=>d
def O7:PyData->Str | .str z=>z | _=>⟨#[]⟩
def nm0 (d:PyData):Str:=O7 (vU d)
abbrev Th:=Str×Int×Int
def thD (t:Th):PyData:=.tuple [.str t.1,.int t.2.1,.int t.2.2]
def wD (w:List Th):PyData:=.tuple (w.map thD)
theorem QY {d:PyData}(h:C9 d=true):∃z,d = .str z/\AM z:=by
 cases d with
 | str z=>
   rw[QV] at h
   simp only[a0V,decide_eq_true_eq,b2Q] at h
   exact⟨z,rfl,h.1.1,h.1.2,h.2⟩
 | _=>cases h
theorem fW {z:Str}(h:AM z):C9 (.str z)=true:=by
 rw[QV,decide_eq_true h.1,decide_eq_true h.2.1,List.all_eq_true.mpr h.2.2];rfl
theorem lM (w:List Th):(w.map thD).map nm0=w.map (·.1):=by rw[zD];rfl
end DL
namespace DL
open PySem PySem.Spec L2
section
variable {K:Frg}{ρ:List (Option DS)}{M:Own}{g:TG}{wi:TI}
theorem GD {fr:List (Option Nat)}{tt:TT}{te:TE}{T:List Nat}{Q:DS->Own->Prop}(ho:QS g T) (hT:∀i∈T,∀j,fr[i]?≠some (some j))
   (h:DI K wi ρ M fun ds M1=>ds.length < sizeLine/\∃(c:PyData->Bool) (f:PyData->PyData),(∀d∈ds,∀A acc M',M1 A=none->M'=M1.put A (.l acc)->DG K g d (M9 fr ρ) M' fun ρ2 M2=>M2=M'/\DT K tt ρ2 M2 fun b M3=>M3=M'/\b=c d/\(c d=true->DE K te ρ2 M3 fun y M4=>y = .d (f d)/\M4=M'))/\Q (.d (.list ((ds.filter c).map f))) M1) :
   DE K (QR fr wi g tt te) ρ M Q:=by
 refine SB ho hT fun σ H R Rl k=>h σ H R Rl fun J ds H1 M1 o1 t1 wd q=>k J ds H1 M1 o1 t1 wd ?_
 obtain⟨hsz,c,f,he,q⟩:=q
 refine⟨hsz,fun A hA=>⟨fun k acc M'=>acc=((ds.take k).filter c).map f/\M'=M1.put A (.l acc),⟨by simp,rfl⟩,fun k acc M' ⟨e1,e2⟩=>⟨by rw[e2];exact zU,?_⟩,fun k d acc M' hd ⟨e1,e2⟩=>?_,fun acc M' ⟨e1,e2⟩=>?_⟩⟩
 · rw[e1,zX]
   exact zN (yJ _ _) (by rw[a2V];omega)
 · have hm:d∈ds:=yN hd
   intro σ H v QQ R dv kk
   refine he d hm A acc M' hA e2 σ H v QQ R dv fun ρ' M2 σ' H' R' st ⟨eM,q2⟩=>kk ρ' M2 σ' H' R' st fun σ2 H2 QQ2 R2 k2=>?_
   refine q2 σ2 H2 QQ2 R2 fun b H3 M3 o3 st3 ⟨eM3,eb,q3⟩=>k2 b H3 M3 o3 st3 ?_
   have ts:(ds.take (k+1)).filter c=(ds.take k).filter c++(if c d then [d] else []):=take_succ_filter c ds k d hd
   cases hb:c d with
   | false=>
     rw[hb] at eb
     subst eb
     refine L2.kH ⟨?_,by rw[eM3,e2]⟩
     rw[ts,hb,e1];simp
   | true=>
     rw[hb] at eb
     subst eb
     refine L2.kI ?_
     refine YY (q3 hb) fun y M4 ⟨ey,e4⟩=>⟨f d,ey,by rw[e4,e2];exact zU,?_,by rw[e4,e2,yI]⟩
     rw[ts,hb,e1];simp
 · rw[e2,yG hA,e1,a3W]
   exact q
end
theorem UO {as bs:List Str}(h:as.map a1X=bs.map a1X):as=bs:=by
 have:=congrArg (List.map O7) h
 rw[zD,zD] at this
 simpa [show(O7∘a1X)=id from rfl] using this
theorem EM {K:Frg}{ρ:List (Option DS)}{M:Own}{D:EndsD}{te:TE}{g:TG}(h:DE K te ρ M fun x M1=>∃d,x = .d d/\DG K g d ρ M1 D.nx):DSt K (jY te g) ρ M D:=fun σ H E R k1 _ _ _=>
 h σ H _ R fun v H' x M' a b c q=>by
   obtain⟨d,rfl,q⟩:=q
   exact q σ H' v _ (R.step a c) b fun ρ2 M2 σ2 H2 R2 st2 p=>k1 ρ2 M2 σ2 H2 R2 (c.trans st2) p
theorem fX {X:Cx}:MtR X "list.append" S3:=QJ
end DL
namespace L2
open PySem PySem.Spec PyProof.Rows
def EntS (w:World):List DictEntry->List (Str×Str)->Prop
 | [],[]=>True
 | e::es,kv::r=>e.hash=hashStr w kv.1/\(∃t,e.key = .str kv.1 t)/\(∃t,e.val = .str kv.2 t)/\EntS w es r
 | _,_=>False
def GDict (w:World) (K:Frg) (a:Addr) (kvs:List (Str×Str)):Prop:=
 (a==sysModules)=false/\(kvs.map (·.1)).Nodup/\∃es ep,K.lookup a=some { cls:=.type "dict", data:=.dict es ep }/\EntS w es.toList kvs
theorem EntS.pairs {P:Program}{w:World}:∀{es:List DictEntry}{kvs:List (Str×Str)},EntS w es kvs->∃vs:List (Key×Value),Pairs (AH P w) es vs/\KV (kvs.map fun kv=>((a0K kv.1:Key),V.str kv.2)) vs/\vs.map (·.1)=kvs.map (fun kv=>(a0K kv.1:Key))/\∀e∈es,∃k,(AH P w).is k e.key=true/\e.hash=(AH P w).hash k
 | [],[],_=>⟨[],.nil,.nil,rfl,by simp⟩
 | e::es,kv::r,⟨h1,⟨t,h2⟩,⟨t',h3⟩,h4⟩=>by
   obtain⟨vs,a,b,c,d⟩:=EntS.pairs (P:=P) h4
   have hk:(AH P w).is (a0K kv.1) e.key=true:=by rw[h2];exact M0 P w kv.1 t
   refine⟨(a0K kv.1,e.val)::vs,.cons hk rfl a,.cons ⟨rfl,⟨t',h3⟩⟩ b,by rw[zI,zI,c],fun x hx=>?_⟩
   rcases yX.mp hx with rfl | hx
   · exact⟨_,hk,h1⟩
   · exact d x hx
section
variable {X:Cx}{pins:List (Addr×Obj)}{σ:St}{H:Hp}{s:Shared}
theorem GDict.at {a:Addr}{kvs:List (Str×Str)}(g:GDict X.w X.K a kvs) (I:Inv X pins σ H s):∃vs,KV (kvs.map fun kv=>((a0K kv.1:Key),V.str kv.2)) vs/\s.heap.DictOf (AH X.prog X.w) a vs:=by
 obtain⟨_,nd,es,ep,hk,he⟩:=g
 obtain⟨vs,p1,p2,p3,p4⟩:=he.pairs (P:=X.prog)
 refine⟨vs,p2,_,es,ep,I.kIn a _ hk,⟨rfl,rfl,rfl⟩,rfl,fun e he=>p4 e (by simpa using he),p1,?_⟩
 rw[p3]
 have:kvs.map (fun kv=>(a0K kv.1:Key))=(kvs.map (·.1)).map a0K:=by rw[zD];rfl
 rw[this]
 unfold List.Nodup
 rw[a4Z]
 exact nd.imp fun {a b} q e=>q (by injection e)
def oM (kvs:List (Str×Str)) (ty:TE):TE:=fun σ H Q=>ty σ H fun y H1=>∃k:Str,y = .str k/\Q (((kvs.lookup k).map V.str).getD .non) H1
theorem UP (kvs:List (Str×Str)) (k:Str):EX (kvs.map fun kv=>((a0K kv.1:Key),V.str kv.2)) (a0K k)=(kvs.lookup k).map V.str:=by
 induction kvs with
 | nil=>rfl
 | cons kv r ih=>
   obtain⟨a,b⟩:=kv
   unfold EX at ih ⊢
   rw[zI,a7V,a2J]
   by_cases h:a=k
   · subst h;simp
   · have h1:decide ((a0K a:Key)=a0K k)=false:=decide_eq_false fun e=>h (by injection e)
     have h2:(k==a)=false:=by simpa using fun e=>h e.symm
     simp only[h1,h2]
     exact ih
theorem lN {x:Str}{p apos cpos:Pos}{e:Expr}{ty:TE}{kvs:List (Str×Str)}(hg:Gl X x) (hm:∃a,X.mg x=some (.ref a)/\GDict X.w X.K a kvs) (he:PE X e ty) (m:M1 X (.Name x p) "get" apos e cpos) (hd:(x==("__debug__":Str))=false:=by decide) :
   PE X (.Call (.Attribute (.Name x p) "get" apos) [e] [] cpos) (oM kvs ty):=by
 obtain⟨a,hm,g⟩:=hm
 intro pins s σ H Q I h
 refine wpAny_Call_method m.base m.few m.line b8K a9J PySem.F.type_dict_get (IS I hg hm ?_ hd)
 obtain⟨vs,rel,dd⟩:=g.at I
 refine⟨dd.typeIs,fun b q=>?_,?_⟩
 · cases q
   obtain⟨ob,_,_,h1,h2,_⟩:=dd
   exact⟨ob,h1,h2.2.1⟩
 rw[m.trees]
 refine b4Z rfl (b4V (xP (thn (he pins s σ H _ I h) fun iv s2 ⟨y,H2,I2,ry,k,ey,q2⟩=>b8V ?_)))
 subst ey
 obtain⟨vs',rel',dd'⟩:=g.at I2
 refine call_meetsIn a9J dd'.typeIs b9K (PySem.F.args_dict_get_2 _ _) (meets_dict_get (AH X.prog X.w) a (HP (k:=a0K k) ry) g.1) ⟨_,dd'.mapOf,?_⟩
 refine⟨_,H2,I2.tok _,?_,q2⟩
 have:=(rel'.val (a0K k)).getD (show RelV .non .none from rfl)
 rw[UP] at this
 exact this
end
end L2
namespace DL
open PySem PySem.Spec L2
section
variable {K:Frg}{ρ:List (Option DS)}{M:Own}{Q:DS->Own->Prop}{ty:TE}
def aZ:Option Str->PyData | some z=>.str z | none=>.none
theorem lO {kvs:List (Str×Str)}(h:DE K ty ρ M fun y M1=>∃k,y = .d (.str k)/\Q (.d (aZ (kvs.lookup k))) M1):DE K (oM kvs ty) ρ M Q:=fun σ H QQ R k=>
 h σ H _ R fun v H1 x M1 o1 s1 t1 h1=>by
   obtain⟨z,rfl,q⟩:=h1
   refine⟨z,B7 s1,?_⟩
   cases e:kvs.lookup z with
   | none=>rw[e] at q;exact k _ H1 (.d .none) M1 o1 (by unfold SI DV;rfl) t1 q
   | some y=>rw[e] at q;exact k _ H1 (.d (.str y)) M1 o1 FO t1 q
theorem lP {X:Cx}{x:Str}{a:Addr}{pos:Pos}(hg:Gl X x) (hm:X.mg x=some (.ref a)) (hd:(x==("__debug__":Str))=false:=by decide):PE X (.Name x pos) (tC (.ref a)):=RT hg hm rfl hd
theorem rJ {neg:Bool}{x:Str}{ys:List Str}(q:Q (.d (.bool (if neg then !decide (x∈ys) else decide (x∈ys)))) M):D2 K (rIn K neg) (.d (.str x)) (.d (.tuple (ys.map .str))) M Q:=fun H v u QQ oa s1 s2 k=>by
 rw[B7 s1]
 unfold SI DV at s2
 obtain⟨a,vs,rfl,hl,hd⟩:=s2
 have e:=NW hd
 subst e
 exact⟨a,_,rfl,.inr hl.sq,rfl,by simp[J8],k _ H (.d (.bool (if neg then !decide (x∈ys) else decide (x∈ys)))) M oa (by rw[UH];exact AJ) Step.refl q⟩
theorem lQ {x:Str}{ys:List Str}(q:Q (.d (.bool (decide (x∈ys)))) M):D2 K (eR K) (.d (.str x)) (.d (.tuple (ys.map .str))) M Q:=G7 (rJ (neg:=false) q)
end
end DL
namespace L2
open PySem PySem.Spec PyProof.Rows
section
variable {X:Cx}
def SK:V->List V->Hp->VK->Prop:=fun v vs H Q=>∃x y,v = .str x/\vs=[.str y]/\Q (.bl (Txt.startswith x y)) H
theorem bA:MtR X "str.startswith" SK:=by
 intro pins s σ H x xs v us Q I rx rv h
 obtain⟨y,z,rfl,rfl,q⟩:=h
 obtain⟨t,rfl⟩:=rx
 obtain⟨u,rfl,t',rfl⟩:=DN rv
 exact SC.startswith ⟨.bl _,H,I,rfl,q⟩
def MV (z:Str) (n:Int):Str:=if (n==1||z.length==0)=true then z else ⟨(a2Z n.toNat z.cps).foldl (·++·) #[]⟩
def Z9:R2:=fun x y H Q=>(rI (fun i j=>IntMulOk i j) fun i j=>.int (i*j)) x y H Q∨∃z n,x = .str z/\y = .int n/\1<=n/\n<=8/\z.length<=1000/\Q (.str (MV z n)) H
theorem UQ (a:Array Nat):∀(n:Nat) (b:Array Nat),(List.foldl (fun x1 x2=>x1++x2) b (a2Z n a)).size=b.size+n*a.size
 | 0,b=>by simp
 | n+1,b=>by
   rw[b2Z,List.foldl_cons,UQ a n,Array.size_append,Nat.succ_mul];omega
theorem O8 (a:Array Nat):∀(n:Nat) (b:Array Nat),(List.foldl (fun x1 x2=>x1++x2) b (a2Z n a)).toList=b.toList++(a2Z n a.toList).flatten
 | 0,b=>by simp
 | n+1,b=>by
   rw[b2Z,List.foldl_cons,O8 a n,b2Z];simp
theorem lR:OpR X (binaryOp .Mult) Z9:=by
 intro pins s σ H x y v u Q I rx ry h
 rcases h with h | ⟨z,n,rfl,rfl,h1,h2,h3,q⟩
 · exact(opI (C:=fun i j=>IntMulOk i j) fun _ _ _ _ _ _ _ hc q=>mul_int q hc) pins s σ H x y v u Q I rx ry h
 · obtain⟨t,rfl⟩:=rx
   obtain⟨t',rfl⟩:=ry
   have hp:(2:Int) ^ 63=9223372036854775808:=by decide
   refine P.mul_str ?_ (fun _ _=>?_) (fun _ _=>?_) ?_
   · rw[decide_eq_false (Int.not_lt.mpr (Int.le_trans (by decide) h1)),decide_eq_false (Int.not_le.mpr (Int.lt_of_le_of_lt h2 (by decide)))];rfl
   · rw[hp]
     have h5:(1000:Int)<=(9223372036854775808 - 1)/n:=Int.le_ediv_of_mul_le (Int.lt_of_lt_of_le (by decide) h1) (Int.le_trans (Int.mul_le_mul_of_nonneg_left h2 (by decide)) (by decide))
     exact fun hc=>absurd (Int.lt_of_le_of_lt h5 hc) (Int.not_lt.mpr (Int.ofNat_le.mpr h3))
   · have hm:z.length*n.toNat<=1000*1000:=Nat.mul_le_mul h3 (by omega)
     unfold Builtin.Str.tooLong
     rw[decide_eq_false]
     exact fun hc=>absurd (zP hc hm) (by decide)
   · rw[if_neg (by omega)]
     have q':=q
     unfold MV at q'
     split
     · rename_i e
       rw[if_pos e] at q'
       exact⟨.str z,H,I,⟨_,rfl⟩,q'⟩
     · rename_i e
       rw[if_neg e] at q'
       refine⟨?_,⟨.str _,H,I.tok _,⟨_,rfl⟩,q'⟩⟩
       show(List.foldl (fun x1 x2=>x1++x2) #[] (a2Z n.toNat z.cps)).size<=sizeLine
       rw[UQ]
       have hm:(#[]:Array Nat).size+n.toNat*z.cps.size<=8*1000:=by
         rw[show(#[]:Array Nat).size=0 from rfl,Nat.zero_add]
         exact Nat.mul_le_mul (by omega) h3
       exact zN hm (by decide)
end
end L2
namespace DL
open PySem PySem.Spec L2
section
variable {X:Cx}{K:Frg}
theorem UR (_:X.K=K):MtR X "str.startswith" SK:=bA
theorem uF (_:X.K=K):OpR X (binaryOp .Mult) Z9:=lR
def uG:List V->Hp->VK->Prop:=fun xs H Q=>∃i j,xs=[.int i,.int j]/\Q (.int (if j < i then j else i)) H
def oN:List V->Hp->VK->Prop:=fun xs H Q=>(∃i,xs=[.int i]/\Q (.int i) H)∨∃k,xs=[.bl k]/\Q (.int (if k then 1 else 0)) H
def ZA:List V->Hp->VK->Prop:=fun xs H Q=>∃i j,xs=[.int i,.int j]/\tI i j/\∀p,H p=none->Q (.ref p) (upd H p (.tup [.int (i/j),.int (i % j)]))
theorem vV (_:X.K=K) (hc:X.calm=true):B2 X (.builtin "min") uG:=aI hc
theorem vW (_:X.K=K):B2 X (.type "int") oN:=aJ
theorem lS (_:X.K=K):B2 X (.builtin "divmod") ZA:=U6
end
section
variable {K:Frg}{ρ:List (Option DS)}{M:Own}{Q:DS->Own->Prop}
theorem bB {x y:Str}(q:Q (.d (.bool (Txt.startswith x y))) M):DM K SK (.d (.str x)) [.d (.str y)] M Q:=fun H v vs QQ oa s1 s2 k=>by
 obtain⟨u,r,rfl,h1,h2⟩:=s2
 cases h2
 rw[B7 s1,B7 h1]
 exact⟨x,y,rfl,rfl,k _ H _ M oa AJ Step.refl q⟩
theorem fY {i j:Int}(c:IntMulOk i j) (q:Q (.d (.int (i*j))) M):D2 K Z9 (.d (.int i)) (.d (.int j)) M Q:=fun H v u QQ oa s1 s2 k=>by
 rw[BF s1,BF s2]
 exact .inl ⟨i,j,rfl,rfl,c,k _ H _ M oa BP Step.refl q⟩
theorem rK {z:Str}{n:Int}(h1:1<=n) (h2:n<=8) (h3:z.length<=1000) (q:Q (.d (.str (MV z n))) M):D2 K Z9 (.d (.str z)) (.d (.int n)) M Q:=fun H v u QQ oa s1 s2 k=>by
 rw[B7 s1,BF s2]
 exact .inr ⟨z,n,rfl,rfl,h1,h2,h3,k _ H _ M oa FO Step.refl q⟩
theorem rL {i j:Int}(q:Q (.d (.int (if j < i then j else i))) M):DR K uG [.d (.int i),.d (.int j)] M Q:=fun H vs QQ oa s k=>by
 obtain⟨v,r,rfl,h1,v2,r2,rfl,h2,h3⟩:=s
 cases h3
 rw[BF h1,BF h2]
 exact⟨i,j,rfl,k _ H _ M oa BP Step.refl q⟩
theorem lU {b:Bool}(q:Q (.d (.int (if b then 1 else 0))) M):DR K oN [.d (.bool b)] M Q:=fun H vs QQ oa s k=>by
 obtain⟨v,r,rfl,h1,h2⟩:=s
 cases h2
 rw[oF h1]
 exact .inr ⟨b,rfl,k _ H _ M oa BP Step.refl q⟩
theorem bC {i j:Int}(h0:0 < j) (hj:j < 1073741824) (q:Q (.d (.tuple [.int (i/j),.int (i % j)])) M):DR K ZA [.d (.int i),.d (.int j)] M Q:=fun H vs QQ oa s k=>by
 obtain⟨v,r,rfl,h1,v2,r2,rfl,h2,h3⟩:=s
 cases h3
 rw[BF h1,BF h2]
 refine⟨i,j,rfl,⟨h0,hj⟩,fun p hp=>?_⟩
 have g:Grow K M.W M.W H (upd H p (.tup [.int (i/j),.int (i % j)])):=AW _ hp
 refine k _ _ (.d (.tuple [.int (i/j),.int (i % j)])) M (oa.new hp) ?_ ⟨g⟩ q
 unfold SI DV
 exact⟨p,_,rfl,.inl ⟨fun w=>w (oa.none hp),.inl AG⟩,DVs.cons (by unfold DV;rfl) (DVs.cons (by unfold DV;rfl) DVs.nil)⟩
theorem fZ {g:TGs}{to ti:TE}{d:PyData}{ds:List PyData}{P:List (Option DS)->Own->Prop}
   (h:DE K to ρ M fun o M1=>DE K ti ρ M1 fun i M2=>∃a xs k j,o = .loc a/\i = .d (.int k)/\M2 a=some (.l xs)/\ixN xs.length k=some j/\DGs K g ds ρ (M2.put a (.l (xs.set j d))) P) :
   DGs K (YK (tD to ti nX) g) (d::ds) ρ M P:=fun σ H vs QQ R hd kk=>by
 unfold DVs at hd
 obtain⟨v,r,rfl,h1,h2⟩:=hd
 refine⟨v,r,rfl,h σ H _ R fun w H2 y M2 o2 s2 t2 h3=>h3 σ H2 _ (R.step o2 t2) fun u H3 z M3 o3 s3 t3 h4=>?_⟩
 obtain⟨a,xs,k,j,rfl,rfl,m,hj,q⟩:=h4
 rw[BF s3]
 have e:=s2.step t3
 unfold SI at e
 subst e
 obtain⟨vs,h0,hd'⟩:=o3 a _ m
 have t23:=t2.trans t3
 obtain⟨p1,p2⟩:=LB o3 m (hd'.set j (DV.grow t23.grow h1))
 have st:=t23.trans p2
 exact⟨a,vs,k,j,rfl,rfl,h0,by rw[hd'.length];exact hj,q σ _ r _ (R.step p1 st) (DVs.grow st.grow h2) fun ρ' M' σ' H' R' st' p=>kk ρ' M' σ' H' R' (st.trans st') p⟩
end
end DL
namespace L2
open PySem PySem.Spec PyProof.Rows PySem.W
theorem SL {ns:List Int}(h:WData.layableAll [WData.list (ns.map WData.int)]=true):∀i∈ns,xJ i<=2 ^ 20:=by
 have h1:WData.weightAll (ns.map WData.int)<=2 ^ 20:=by
   have h0:WData.layable (WData.list (ns.map WData.int))=true:=by
     unfold WData.layableAll at h
     simpa using h
   unfold WData.layable at h0
   rw[a0V] at h0
   exact of_decide_eq_true h0.2
 intro i hi
 refine zN ?_ h1
 clear h h1
 induction ns with
 | nil=>cases hi
 | cons n r ih=>
   rw[zI]
   show _<=WData.weight (.int n)+1+WData.weightAll (r.map WData.int)
   rcases yX.mp hi with rfl | hi
   · have:WData.weight (.int i)=xJ i:=rfl
     omega
   · have:=ih hi
     omega
theorem g6 {l:PySem.W.OpenLaw}{n k:Nat}{q:Program}{loose:List Str}{XP:(Str->Option Value)->Heap->Prop}{YP:World->Heap->Prop}{d:DefRec}{K:Params->Frg}{CX:World->CXT}{sp:World->Sp}{x:Str}
   (hn:l.most=some n) (hn2:n<=sizeLine) (hdf:d.params.defaults=[]) (hr:Room k callerA)
   (hY:∀(w:World) (h:Heap),YP w h->(K w.params).In h)
   (F:∀(w:World) (mg:Str->Option Value) (fa:Addr) (h:Heap),(K w.params).In h->h.Ns mainGlobals mg->mg d.name=some (.ref fa) ->
     ∃fd:FuncData,(∀(s:Shared) (u:Value),BindsTo s fd ⟨[u],[]⟩ [(x,u)]) /\
       ∀base:Heap,(K w.params).In base->base.Ns mainGlobals mg->FnOk l.prog w (K w.params) mg base (CX w) k fa fd [x] (sp w))
   (hsp:∀(w:World) (H:Hp) (a:Addr) (ns:List Int),ns.length<=n->(∀i∈ns,xJ i<=2 ^ 20)->qG H->SqL (K w.params) H a (ns.map V.int)->sp w [.ref a] H (fun v _=>v = .bl true) fun _ _ _=>False)
   (hCX:∀(w:World) (H:Hp) (s:Shared) (e:Value) (s':Shared),CX w [] H s (fun _ _ _=>False) e s'->False) :
   PySem.W.WalkO q loose XP YP l.row.toRowW d [] (fun f vs=>PySem.call f vs):=by
 intro w s₀ s₁ mg mb G Y fa o pm cd doc dV kV ho hd hcd hD hmg hg args vals as hpre hlay hrd hwl hlo
 have e1:dV = .none:=Dflts.none hD hdf
 subst e1
 have e2:kV = .none:=Dflts.noKw hD
 subst e2
 obtain⟨a,vs,ns,rfl,rfl,hobj,hints,hlen⟩:=Att.script_of hn hpre hwl
 have hbits:=SL hlay
 refine enter_call (xN (R:=fun r s'=>r = .ok (.ret (.bool true))/\OldK s₁.heap s'.heap/\s'.os=s₁.os/\AllBare s'.gens) ?_ fun r s' hq=>?_)
 · have KX:=hY w _ Y
   obtain⟨fd,hb,hF⟩:=F w mg fa _ KX G.T.g hmg
   exact dW KX G.T.g G.T.b G.T.builtins G.T.nolimit hg hobj hints (zN hlen hn2) hr hF hb (fun H hO hS=>hsp w H a ns hlen hbits hO hS) fun H e s'=>hCX w H s₁ e s'
 · have h1:=hq.1
   subst h1
   exact⟨.inl ⟨.bool true,.bool true,[],rfl,fun _=>rfl,.bool true,Att.post_true l _,fun _=>⟨List.Pairwise.nil,fun _ hm=>(nomatch hm)⟩⟩,hq.2.1,hq.2.2.1,hq.2.2.2⟩
end L2
namespace DL
open PySem PySem.Spec L2
theorem O9 (i m:Nat) (a:Array Nat):((a1V m).map (i+·)).filterMap (fun j=>a[j]?)=(a.toList.drop i).take m:=by
 induction m with
 | zero=>simp
 | succ m ih=>
   rw[List.range_succ,xI,List.filterMap_append,ih,b0V]
   have e:a[i+m]?=(a.toList.drop i)[m]?:=by rw[List.getElem?_drop];simp
   simp only[zI,a7J,a4J,List.filterMap_nil,e]
   cases (a.toList.drop i)[m]? <;> simp
theorem X8 (n len:Nat):max 0 (min (n:Int) (len:Int))=((min n len:Nat):Int):=by
 rcases Nat.le_total n len with h | h
 · rw[b0W h,Int.min_eq_left (Int.ofNat_le.mpr h),Int.max_eq_right (b3W _)]
 · rw[b5X h,Int.min_eq_right (Int.ofNat_le.mpr h),Int.max_eq_right (b3W _)]
theorem g9 (a b:Nat):(if (a:Int) < (b:Int) then ((b:Int) - (a:Int)+1 - 1)/1 else 0).toNat=b - a:=by
 split
 · rw[Int.ediv_one];omega
 · omega
theorem gA (n len:Nat):a3Z (some (n:Int)) none 1 len=(a1V (len - min n len)).map (min n len+·):=by
 unfold a3Z sliceRange
 have h1:¬((n:Int) < 0):=Int.not_lt.mpr (b3W n)
 have h2:=X8 n len
 simp only[show(1:Int) > 0 by decide,if_true,h1,if_false,h2]
 have h3:(if ((min n len:Nat):Int) < (len:Int) then ((len:Int) - ((min n len:Nat):Int)+1 - 1)/1 else 0).toNat=len - min n len:=g9 _ _
 rw[h3]
 apply yM
 intro i hi
 omega
theorem lV (n k len:Nat):a3Z (some (n:Int)) (some (k:Int)) 1 len=(a1V (min k len - min n len)).map (min n len+·):=by
 unfold a3Z sliceRange
 have h1:¬((n:Int) < 0):=Int.not_lt.mpr (b3W n)
 have h1':¬((k:Int) < 0):=Int.not_lt.mpr (b3W k)
 have h2:=X8 n len
 have h2':=X8 k len
 simp only[show(1:Int) > 0 by decide,if_true,h1,h1',if_false,h2,h2']
 have h3:(if ((min n len:Nat):Int) < ((min k len:Nat):Int) then (((min k len:Nat):Int) - ((min n len:Nat):Int)+1 - 1)/1 else 0).toNat=min k len - min n len:=g9 _ _
 rw[h3]
 apply yM
 intro i hi
 omega
theorem GE (z:Str) (n:Nat):(a0J z (some (n:Int)) none).cps.toList=z.cps.toList.drop n:=by
 unfold a0J
 rw[gA]
 have hl:z.length=z.cps.toList.length:=by simp[Str.length]
 split
 · rename_i h
   rw[a0V] at h
   have h:=eq_of_beq h.2
   rw[zX,xZ] at h
   have h0:n=0∨z.cps.toList.length=0:=by rw[hl] at h;omega
   rcases h0 with rfl | h0
   · simp
   · rw[List.length_eq_zero_iff.mp h0];simp
 · show(List.filterMap _ _).toArray.toList=_
   rw[O9,List.toList_toArray,hl]
   by_cases h:n<=z.cps.toList.length
   · rw[b0W h,a9X (by rw[a5X];exact zR _)]
   · rw[b5X (by omega),a3X (zR _),a3X (by omega)];simp
theorem bD (z:Str) (n k:Nat):(a0J z (some (n:Int)) (some (k:Int))).cps.toList=(z.cps.toList.take k).drop n:=by
 unfold a0J
 rw[lV]
 have hl:z.length=z.cps.toList.length:=by simp[Str.length]
 have key:(z.cps.toList.drop (min n z.length)).take (min k z.length - min n z.length)=(z.cps.toList.take k).drop n:=by
   rw[hl,List.drop_take]
   by_cases h:n<=z.cps.toList.length
   · rw[b0W h,b4J,a5X]
     rcases Nat.le_total k z.cps.toList.length with h' | h'
     · rw[b0W h']
     · rw[b5X h',Nat.min_self,b5X (Nat.sub_le_sub_right h' n)]
   · rw[a3X (show z.cps.toList.length<=min n z.cps.toList.length by omega),a3X (show z.cps.toList.length<=n by omega)];simp
 split
 · rename_i h
   rw[a0V] at h
   have h:=eq_of_beq h.2
   rw[zX,xZ] at h
   rw[← key]
   have h5:=Nat.min_le_right k z.length
   have h0:min n z.length=0∨z.cps.toList.length=0:=by
     rw[← hl]
     revert h h5
     generalize min k z.length=a
     generalize min n z.length=b
     omega
   rcases h0 with h0 | h0
   · have h6:z.cps.toList.length<=min k z.length - 0:=by rw[← hl];rw[h0] at h;exact Nat.le_of_eq h.symm
     rw[h0,List.drop_zero,a9X h6]
   · rw[List.length_eq_zero_iff.mp h0];simp
 · show(List.filterMap _ _).toArray.toList=_
   rw[O9,List.toList_toArray,key]
theorem X9 {i N:Nat}(h:i < N) (hN:N<=26):i/8 < 26:=zQ (Nat.div_le_self i 8) (zP h hN)
theorem JX (k:Nat):(1:Int)<=1+(k:Int) % 8/\1+(k:Int) % 8<=8/\1<=(1+(k:Int) % 8).toNat/\(1+(k:Int) % 8).toNat<=8:=by
 have e:(k:Int) % 8=((k % 8:Nat):Int):=rfl
 rw[e]
 have:=Nat.mod_lt k (show 8 > 0 by decide)
 clear e
 generalize k % 8=r at *
 omega
theorem uH {i j:Nat}(h1:(1:Int)+(i:Int) % 8=1+(j:Int) % 8) (h2:i/8=j/8):i=j:=by
 have a:=Nat.div_add_mod i 8
 have b:=Nat.div_add_mod j 8
 have c:i % 8=j % 8:=by
   have:=Int.add_left_cancel h1
   exact Int.ofNat.inj this
 rw[← a,← b,h2,c]
theorem rM {t:Nat}(h:t<=26):26 - t+min t 26=26:=by rw[b0W h,Nat.sub_add_cancel h]
theorem rN {s L:Nat}(h:s<=7):min (3+s) L - 3<=7:=zN (Nat.sub_le_sub_right (Nat.min_le_left _ _) 3) (by rw[Nat.add_sub_cancel_left];exact h)
def XA (z:Str):Prop:=∀c∈z.cps.toList,F4 c=true
theorem OB {z:Str}(h:XA z) (h1:1<=z.cps.toList.length) (h2:z.cps.toList.length<=8):AM z:=⟨by rw[LH];exact h1,by rw[LH];exact h2,h⟩
theorem OC {a b:Str}(h1:XA a) (h2:XA b):XA (a++b):=fun c hc=>by
 rw[AQ] at hc
 exact(yW.mp hc).elim (h1 c) (h2 c)
theorem US {c:Nat}(h:F4 c=true):XA ⟨#[c]⟩:=fun d hd=>by
 have:d=c:=by simpa using hd
 subst this;exact h
theorem SM {c:Nat}{n:Int}(h1:1<=n):(MV ⟨#[c]⟩ n).cps.toList=a2Z n.toNat c:=by
 unfold MV
 split
 · rename_i h
   have:n=1:=by
     rw[Bool.or_eq_true,beq_iff_eq,beq_iff_eq] at h
     rcases h with h | h
     · exact h
     · exact absurd h (show ¬(1=0) by decide)
   subst this;rfl
 · show(List.foldl _ _ _:Array Nat).toList=_
   rw[O8]
   show []++(a2Z n.toNat [c]).flatten=_
   rw[List.nil_append]
   induction n.toNat with
   | zero=>rfl
   | succ m ih=>rw[b2Z,List.flatten_cons,ih,b2Z];rfl
end DL
namespace L2
open PySem PySem.Spec PyProof.Rows
abbrev GW (F:List Addr) (S:Heap->Prop):Prop:=∀h h':Heap,S h->(∀c∈F,∀o,h.get? c=some o->h'.get? c=some o)->S h'
abbrev NxI (P:Program) (w:World) (A:Around) (i:Addr) (S S':Heap->Prop) (R:Value->Prop):Prop:=
 ∀(s:Shared) (Q:Value->Shared->Prop) (E:Value->Shared->Prop),S s.heap->(∀h' tk x,R x->S' h'->Heap.SameBut i s.heap h'->Q x { s with heap:=h',toks:=tk })->wpAny (model P w) A (a2K (.ref i)) Q E s
abbrev NxE (P:Program) (w:World) (A:Around) (i:Addr) (S:Heap->Prop):Prop:=
 ∀(s:Shared) (Q:Value->Shared->Prop) (E:Value->Shared->Prop),S s.heap->(∀h' e,Heap.ExtBut i s.heap h'->(∃o,h'.get? e=some o/\o.cls = .type "StopIteration")->E (.ref e) { s with heap:=h' })->wpAny (model P w) A (a2K (.ref i)) Q E s
structure ZAp (z TI TO i1 i2:Addr) (F1 F2:List Addr):Prop where
 tz:TO≠z
 az:i1≠z
 bz:i2≠z
 ta:TO≠i1
 tb:TO≠i2
 ab:i1≠i2
 f1:∀c∈F1,c≠z/\c≠TO/\c≠i2
 f2:∀c∈F2,c≠z/\c≠TO/\c≠i1
section
variable {prog:Program}{w:World}{A:Around}{E:Value->Shared->Prop}{s:Shared}{z TI TO i1 i2:Addr}{F1 F2:List Addr}{S1 S1' S2 S2':Heap->Prop}{R1 R2:Value->Prop}{a b:Value}
theorem bE {Q:Value->Shared->Prop}(D:ZAp z TI TO i1 i2 F1 F2) (t1:GW F1 S1) (t1':GW F1 S1') (t2:GW F2 S2) (t2':GW F2 S2') (n1:NxI prog w A i1 S1 S1' R1) (n2:NxI prog w A i2 S2 S2' R2)
   (hz:IsZip s.heap z TI TO .none) (hTI:IsPair s.heap TI (.ref i1) (.ref i2)) (hTO:IsPair s.heap TO a b) (h1:S1 s.heap) (h2:S2 s.heap)
   (l1:∀h,S1' h->i1 < h.objs.size) (l2:∀h,S2' h->i2 < h.objs.size)
   (hQ:∀h' tk x y,R1 x->R2 y->IsZip h' z TI TO (rawInt s.heap.objs.size)->IsPair h' TO x y->S1' h'->S2' h'->IsPair h' s.heap.objs.size x y->h'.objs.size=s.heap.objs.size+1 ->
     (∀c o,c≠z->c≠TO->c≠i1->c≠i2->s.heap.get? c=some o->h'.get? c=some o)->Q (.ref s.heap.objs.size) { s with heap:=h',toks:=tk }) :
   wpAny (model prog w) A (Builtin.«zip.__next__» ⟨[.ref z],[]⟩) (fun fin s'=>∃v,fin = .done (.ret v)/\Q v s') E s:=by
 show wpAny _ _ (field (.ref z) 2 >>= _) _ _ _
 refine zZ (wpAny_field hz rfl (x:=.bool false) rfl ?_);show wpAny _ _ (field (.ref z) 3 >>= _) _ _ _
 refine zZ (wpAny_field hz rfl (x:=.ref TI) rfl ?_);refine zZ (wpAny_seqItems hTI rfl ?_)
 show wpAny _ _ (a4V (.ref z) >>= _) _ _ _;refine zZ ?_;unfold a4V
 refine zZ (wpAny_field hz rfl (x:=.none) rfl (zY ?_));simp only[if_true];refine zZ (wpAny_rule ?_)
 refine zZ (wpAny_field hz rfl (x:=.ref TO) rfl ?_);refine zZ (wpAny_setField_rec hz (by simp) fun g1 y1 q1=>?_)
 replace y1:IsZip g1 z TI TO .ellipsis:=y1
 refine zZ ?_;simp only[List.forIn_cons,List.forIn_nil,List.zipIdx_cons,List.zipIdx_nil]
 refine zZ (zZ (wpAny_onRaise ?_));show wpAny _ _ (a2K (.ref i1) >>= _) _ _ _
 refine zZ (n1 _ _ _ (t1 _ _ h1 fun c hc o e=>q1.extBut _ _ (D.f1 c hc).1 e) fun g2 k2 x rx x2 q2=>zY ?_)
 have p2:IsPair g2 TO a b:=q2.extBut _ _ D.ta (q1.extBut _ _ D.tz hTO)
 refine zZ (wpAny_seqItems p2 rfl ?_);refine zZ (wpAny_updateSeq_pair p2 fun g3 p3 q3=>?_)
 replace p3:IsPair g3 TO x b:=p3
 refine zZ (wpAny_letGo (zY ?_));refine zZ (zZ (wpAny_onRaise ?_));show wpAny _ _ (a2K (.ref i2) >>= _) _ _ _
 refine zZ (n2 _ _ _ (t2 _ _ h2 fun c hc o e=>q3.extBut _ _ (D.f2 c hc).2.1 (q2.extBut _ _ (D.f2 c hc).2.2 (q1.extBut _ _ (D.f2 c hc).1 e))) fun g4 k4 y ry x4 q4=>zY ?_)
 have p4:IsPair g4 TO x b:=q4.extBut _ _ D.tb p3
 refine zZ (wpAny_seqItems p4 rfl ?_);refine zZ (wpAny_updateSeq_pair p4 fun g5 p5 q5=>?_)
 replace p5:IsPair g5 TO x y:=p5
 refine zZ (wpAny_letGo (zY (zY ?_)));refine zZ (wpAny_seqItems p5 rfl ?_);refine zZ (wpAny_newTuple ?_)
 have hsz:g5.objs.size=s.heap.objs.size:=by rw[q5.1,q4.1,q3.1,q2.1,q1.1]
 have y5:IsZip g5 z TI TO .ellipsis:=q5.extBut _ _ D.tz.symm (q4.extBut _ _ D.bz.symm (q3.extBut _ _ D.tz.symm (q2.extBut _ _ D.az.symm y1)))
 have k5:∀c o,c≠z->c≠TO->c≠i1->c≠i2->s.heap.get? c=some o->g5.get? c=some o:=fun c o c1 c2 c3 c4 e=>q5.extBut _ _ c2 (q4.extBut _ _ c4 (q3.extBut _ _ c2 (q2.extBut _ _ c3 (q1.extBut _ _ c1 e))))
 have x25:S1' g5:=t1' _ _ x2 fun c hc o e=>q5.extBut _ _ (D.f1 c hc).2.1 (q4.extBut _ _ (D.f1 c hc).2.2 (q3.extBut _ _ (D.f1 c hc).2.1 e))
 have x45:S2' g5:=t2' _ _ x4 fun c hc o e=>q5.extBut _ _ (D.f2 c hc).2.1 e
 have ltz:z < g5.objs.size:=zM y5
 show wpAny _ _ (b7Q (.ref z) (.ref g5.objs.size) >>= _) _ _ _;refine zZ ?_;unfold b7Q
 have y6:IsZip (g5.push { cls:=.type "tuple", data:=.seq #[x,y] }) z TI TO .ellipsis:=zW _ y5
 refine zZ (wpAny_setField_rec y6 (by simp) fun g7 y7 q7=>?_)
 replace y7:IsZip g7 z TI TO (rawInt g5.objs.size):=y7
 refine wpAny_setField_rec y7 (by simp) fun g8 y8 q8=>?_
 replace y8:IsZip g8 z TI TO (rawInt g5.objs.size):=y8
 have up:∀c o,c≠z->g5.get? c=some o->g8.get? c=some o:=fun c o c1 e=>q8.extBut _ _ c1 (q7.extBut _ _ c1 (zW _ e))
 have p8:IsPair g8 g5.objs.size x y:=q8.extBut _ _ (a5K ltz) (q7.extBut _ _ (a5K ltz) (yZ _ rfl))
 have s8:g8.objs.size=g5.objs.size+1:=by rw[q8.1,q7.1,a5J]
 rw[hsz] at y8 p8 s8
 refine zY ⟨_,rfl,?_⟩;show Q (.ref g5.objs.size) _;rw[hsz]
 exact hQ g8 _ x y rx ry y8 (up _ _ D.tz p5) (t1' _ _ x25 fun c hc o e=>up c o (D.f1 c hc).1 e) (t2' _ _ x45 fun c hc o e=>up c o (D.f2 c hc).1 e) p8 s8 fun c o c1 c2 c3 c4 e=>up c o c1 (k5 c o c1 c2 c3 c4 e)
theorem bF {Q:Fin->Shared->Prop}(D:ZAp z TI TO i1 i2 F1 F2) (t1:GW F1 S1) (n1:NxE prog w A i1 S1)
   (hz:IsZip s.heap z TI TO .none) (hTI:IsPair s.heap TI (.ref i1) (.ref i2)) (hTO:IsPair s.heap TO a b) (h1:S1 s.heap)
   (hE:∀h' e tk,(∀c o,c≠z->c≠TO->c≠i1->c≠i2->s.heap.get? c=some o->h'.get? c=some o)->(∃o,h'.get? e=some o/\o.cls = .type "StopIteration")->E (.ref e) { s with heap:=h',toks:=tk }) :
   wpAny (model prog w) A (Builtin.«zip.__next__» ⟨[.ref z],[]⟩) Q E s:=by
 show wpAny _ _ (field (.ref z) 2 >>= _) _ _ _
 refine zZ (wpAny_field hz rfl (x:=.bool false) rfl ?_);show wpAny _ _ (field (.ref z) 3 >>= _) _ _ _
 refine zZ (wpAny_field hz rfl (x:=.ref TI) rfl ?_);refine zZ (wpAny_seqItems hTI rfl ?_)
 show wpAny _ _ (a4V (.ref z) >>= _) _ _ _;refine zZ ?_;unfold a4V
 refine zZ (wpAny_field hz rfl (x:=.none) rfl (zY ?_));simp only[if_true];refine zZ (wpAny_rule ?_)
 refine zZ (wpAny_field hz rfl (x:=.ref TO) rfl ?_);refine zZ (wpAny_setField_rec hz (by simp) fun g1 y1 q1=>?_)
 replace y1:IsZip g1 z TI TO .ellipsis:=y1
 refine zZ ?_;simp only[List.forIn_cons,List.forIn_nil,List.zipIdx_cons,List.zipIdx_nil]
 refine zZ (zZ (wpAny_onRaise ?_));show wpAny _ _ (a2K (.ref i1) >>= _) _ _ _
 refine zZ (n1 _ _ _ (t1 _ _ h1 fun c hc o e=>q1.extBut _ _ (D.f1 c hc).1 e) fun g2 e q2 he=>?_)
 obtain⟨oe,hoe,hce⟩:=he
 have y2:IsZip g2 z TI TO .ellipsis:=q2 _ _ D.az.symm y1
 have ez:e≠z:=fun x=>by subst x;rw[y2] at hoe;cases hoe;simp at hce
 exact wpAny_setField_rec y2 (by simp) fun g3 _ q3=>hE g3 e _ (fun c o c1 _ c3 _ x=>q3.extBut _ _ c1 (q2 _ _ c3 (q1.extBut _ _ c1 x))) ⟨oe,q3.extBut _ _ ez hoe,hce⟩
theorem bG {Q:Option Value->Shared->Prop}(D:ZAp z TI TO i1 i2 F1 F2) (t1:GW F1 S1) (t1':GW F1 S1') (t2:GW F2 S2) (t2':GW F2 S2') (n1:∀A:Around,NxI prog w A i1 S1 S1' R1) (n2:∀A:Around,NxI prog w A i2 S2 S2' R2)
   (hz:IsZip s.heap z TI TO .none) (hTI:IsPair s.heap TI (.ref i1) (.ref i2)) (hTO:IsPair s.heap TO a b) (h1:S1 s.heap) (h2:S2 s.heap)
   (l1:∀h,S1' h->i1 < h.objs.size) (l2:∀h,S2' h->i2 < h.objs.size)
   (hQ:∀h' tk x y,R1 x->R2 y->IsZip h' z TI TO (rawInt s.heap.objs.size)->IsPair h' TO x y->S1' h'->S2' h'->IsPair h' s.heap.objs.size x y->h'.objs.size=s.heap.objs.size+1 ->
     (∀c o,c≠z->c≠TO->c≠i1->c≠i2->s.heap.get? c=some o->h'.get? c=some o)->Q (some (.ref s.heap.objs.size)) { s with heap:=h',toks:=tk }) :
   wpAny (model prog w) A (pyNext (.ref z)) Q E s:=by
 have hT:s.TypeIs (.ref z) "zip" := ⟨_,hz,rfl⟩
 unfold pyNext
 exact zZ (wpAny_attempt (wpAny_callSpecial?_slot (name:=a0Q "__next__") hT F.slot_zip_next (wpAny_call_entry F.slot_zip_next hT F.entry_zip_next
   (bE D t1 t1' t2 t2' (n1 _) (n2 _) hz hTI hTO h1 h2 l1 l2 fun h' tk x y b1 b2 b3 b4 b5 b6 b7 b8 b9=>zY (hQ h' tk x y b1 b2 b3 b4 b5 b6 b7 b8 b9)) (F.args_zip_next_1 _))))
theorem bH {Q:Option Value->Shared->Prop}(hh:A.handled=none) (hz:IsZip s.heap z TI TO .none)
   (h:∀(Q':Fin->Shared->Prop) (E':Value->Shared->Prop),(∀h' e tk,(∀c o,c≠z->c≠TO->c≠i1->c≠i2->s.heap.get? c=some o->h'.get? c=some o)->(∃o,h'.get? e=some o/\o.cls = .type "StopIteration")->E' (.ref e) { s with heap:=h',toks:=tk }) ->
     ∀A':Around,A'.handled=none->wpAny (model prog w) A' (Builtin.«zip.__next__» ⟨[.ref z],[]⟩) Q' E' s)
   (hQ:∀h' tk,(∀c o,c≠z->c≠TO->c≠i1->c≠i2->s.heap.get? c=some o->h'.get? c=some o)->Q none { s with heap:=h',toks:=tk }):wpAny (model prog w) A (pyNext (.ref z)) Q E s:=by
 have hT:s.TypeIs (.ref z) "zip" := ⟨_,hz,rfl⟩
 unfold pyNext
 refine zZ (wpAny_attempt (wpAny_callSpecial?_slot (name:=a0Q "__next__") hT F.slot_zip_next (wpAny_call_entry F.slot_zip_next hT F.entry_zip_next (h _ _ (fun h' e tk hk he=>?_) _ ?_) (F.args_zip_next_1 _))))
 · obtain⟨o,ho,hc⟩:=he
   refine zZ (wpAny_isInstance (T:= "StopIteration") (b:=true) ⟨o,ho,hc⟩ isSubtype_stop ?_)
   exact zY (hQ _ _ hk)
 · exact hh
end
end L2
namespace L2
open PySem PySem.Spec PyProof.Rows
section
variable {prog:Program}{w:World}{A:Around}{E:Value->Shared->Prop}{s:Shared}
theorem gB {i:Addr}{x:Str}{t:Tok}{k c:Nat}(hx:x.cps[k]?=some c):NxI prog w A i (fun h=>h.IsStrIter i "str_ascii_iterator" x t k) (fun h=>h.IsStrIter i "str_ascii_iterator" x t (k+1)) (fun v=>RelV (.str ⟨#[c]⟩) v):=
 fun s Q E hit hQ=>wpAny_nextOf_ascii_item hit hx fun h' a b=>hQ h' _ _ ⟨_,rfl⟩ a b
theorem bI {i:Addr}{x:Str}{t:Tok}{k:Nat}(hh:A.handled=none) (hx:x.cps[k]?=none):NxE prog w A i (fun h=>h.IsStrIter i "str_ascii_iterator" x t k):=
 fun s Q E hit hE=>wpAny_nextOf_ascii_end hh hit hx hE
theorem gC {i t:Addr}{k:Nat}{items:Array Value}{y:Value}(hne:t≠i) (hx:items[k]?=some y):NxI prog w A i (fun h=>h.IsTupleIter i t k/\h.IsTuple t items) (fun h=>h.IsTupleIter i t (k+1)/\h.IsTuple t items) (fun v=>v=y):=fun s Q E hS hQ=>by
 obtain⟨hit,ht⟩:=hS
 obtain⟨o,ho,hc,hd⟩:=id hit
 obtain⟨ol,hol,hcl,nl,hdl⟩:=id ht
 unfold a2K;refine zZ (wpAny_callSpecial?_slot (name:=a0Q "__next__") hit.typeIs b1W (wpAny_call_entry b1W hit.typeIs F.entry_tuple_iterator_next ?_ (F.args_tuple_iterator_next_1 _)))
 show wpAny _ _ (field (.ref i) 0 >>= _) _ _ s
 refine zZ (wpAny_field ho hd (x:=.ref t) rfl ?_);show wpAny _ _ (if (a0X t==a1J)=true then _ else _) _ _ s
 rw[if_neg (show ¬((a0X t==a1J)=true) from nft)];show wpAny _ _ (field (.ref i) 1 >>= _) _ _ s
 refine zZ (wpAny_field ho hd (x:=.int k 0) rfl ?_);show wpAny _ _ (seqItems? (.ref t) >>= _) _ _ s
 refine zZ (wpAny_seqItems hol hdl ?_);simp only[a4K,hx]
 refine zZ (wpAny_setField ho hd (by simp) (zY ⟨y,rfl,zY (hQ _ s.toks y rfl ⟨?_,ht.extBut (b9W ..).extBut hne⟩ (b9W ..))⟩))
 exact⟨_,a7Q _ ho (Obj.isFreed_of_fields (b3K hd _)),(Obj.cls_mapFields ..).trans hc,by rw[b3K hd];simp[rawInt]⟩
abbrev QZ (v:Value) (o:Obj) (Pre:Heap->Prop):Prop:=∀(prog:Program) (w:World) (A:Around) (E:Value->Shared->Prop) (s:Shared) (Q:Value->Shared->Prop),Pre s.heap->Q (.ref s.heap.objs.size) { s with heap:=s.heap.push o }->wpAny (model prog w) A (pyIter v) Q E s
theorem bJ {x:Str}{t:Tok}(ha:x.cps.all (· < 128)=true):QZ (.str x t) { cls:=.type "str_ascii_iterator", data:=.fields #[.str x t,.int 0 0] } (fun _=>True):=fun prog w A E s Q _ hQ=>wpAny_pyIter_ascii ha hQ
theorem lW {t:Addr}{items:Array Value}:QZ (.ref t) { cls:=.type "tuple_iterator", data:=.fields #[.ref t,.int 0 0] } (fun h=>h.IsTuple t items):=fun prog w A E s Q ht hQ=>wpAny_pyIter_tuple ht hQ
abbrev zH1 (h:Heap) (o1:Obj):Heap:=h.push o1
abbrev zH2 (h:Heap) (o1 o2:Obj):Heap:=(zH1 h o1).push o2
abbrev zH3 (h:Heap) (o1 o2:Obj):Heap:=(zH2 h o1 o2).push { cls:=.type "tuple", data:=.seq #[.ref h.objs.size,.ref (zH1 h o1).objs.size] }
abbrev zH4 (h:Heap) (o1 o2:Obj):Heap:=(zH3 h o1 o2).push { cls:=.type "tuple", data:=.seq #[.none,.none] }
abbrev zH5 (h:Heap) (o1 o2:Obj):Heap:=(zH4 h o1 o2).push { cls:=.type "zip", data:=.fields #[.none,.bool false,.bool false,.ref (zH2 h o1 o2).objs.size,.ref (zH3 h o1 o2).objs.size] }
theorem XB {v1 v2:Value}{o1 o2:Obj}{Pre1 Pre2:Heap->Prop}(n1:QZ v1 o1 Pre1) (n2:QZ v2 o2 Pre2) (st2:∀h o,Pre2 h->Pre2 (h.push o)) :
   Meets (Builtin.«zip.__new__» ⟨[.type "zip", v1,v2],[]⟩) (fun _ R s=>Pre1 s.heap/\Pre2 s.heap/\R (.ok (.ret (.ref (zH4 s.heap o1 o2).objs.size))) { s with heap:=zH5 s.heap o1 o2 }):=
 .of_wp fun prog w A R s h=>by
   obtain⟨hp,g,d,tk,os⟩:=s
   obtain⟨p1,p2,h⟩:=h
   have hsub:=sub_zip
   have p2':Pre2 (hp.push o1):=st2 _ _ p2
   wp_walk using n1 _ _ _ _ _ _ p1,n2 _ _ _ _ _ _ p2'
   exact⟨_,rfl,h⟩
theorem bK {v1 v2:Value}{o1 o2:Obj}{Pre1 Pre2:Heap->Prop}{Q:Value->Shared->Prop}(n1:QZ v1 o1 Pre1) (n2:QZ v2 o2 Pre2) (st2:∀h o,Pre2 h->Pre2 (h.push o)) (f1:o1.isFreed=false) (f2:o2.isFreed=false) (h1:Pre1 s.heap) (h2:Pre2 s.heap)
   (h:∀h',IsZip h' (s.heap.objs.size+4) (s.heap.objs.size+2) (s.heap.objs.size+3) .none->IsPair h' (s.heap.objs.size+2) (.ref s.heap.objs.size) (.ref (s.heap.objs.size+1)) ->
     IsPair h' (s.heap.objs.size+3) .none .none->h'.get? s.heap.objs.size=some o1->h'.get? (s.heap.objs.size+1)=some o2->(∀c o,s.heap.get? c=some o->h'.get? c=some o)->Q (.ref (s.heap.objs.size+4)) { s with heap:=h' }) :
   wpAny (model prog w) A (call (.type "zip") [v1,v2]) Q E s:=by
 refine callType_new F.called_zip (by decide) (F.typeCall_zip_2 _ _) (F.newCall_zip_2 _ _) (fun obj=>F.args_object_init_3 obj _ _) F.entry_zip_new (XB n1 n2 st2) ⟨h1,h2,?_⟩
 have z1:(zH1 s.heap o1).objs.size=s.heap.objs.size+1:=a5J ..
 have z2:(zH2 s.heap o1 o2).objs.size=s.heap.objs.size+2:=by rw[a5J,z1]
 have z3:(zH3 s.heap o1 o2).objs.size=s.heap.objs.size+3:=by rw[a5J,z2]
 have z4:(zH4 s.heap o1 o2).objs.size=s.heap.objs.size+4:=by rw[a5J,z3]
 have e5:(zH5 s.heap o1 o2).get? (zH4 s.heap o1 o2).objs.size=some _:=yZ _ rfl
 have e4:(zH5 s.heap o1 o2).get? (zH3 s.heap o1 o2).objs.size=some _:=zW _ (yZ _ rfl)
 have e3:(zH5 s.heap o1 o2).get? (zH2 s.heap o1 o2).objs.size=some _:=zW _ (zW _ (yZ _ rfl))
 have e2:(zH5 s.heap o1 o2).get? (zH1 s.heap o1).objs.size=some o2:=zW _ (zW _ (zW _ (yZ _ f2)))
 have e1:(zH5 s.heap o1 o2).get? s.heap.objs.size=some o1:=zW _ (zW _ (zW _ (zW _ (yZ _ f1))))
 show _/\_
 rw[z2,z3,z4] at e5
 rw[z1,z2] at e3
 rw[z3] at e4
 rw[z1] at e2
 rw[z4]
 exact⟨⟨_,e5,rfl⟩,h _ e5 e3 e4 e1 e2 fun c o x=>zW _ (zW _ (zW _ (zW _ (zW _ x))))⟩
end
section
variable {X:Cx}{pins:List (Addr×Obj)}{σ:St}{H:Hp}{s:Shared}
theorem SN {a z:Addr}{xs:List V}(I:Inv X pins σ H s) (hf:JP X pins H z) (h:SqT X.K H a xs):a≠z:=by
 rintro rfl
 rcases h with h | ⟨o,its,n,hk,_⟩
 · rcases h with h | ⟨o',h⟩ <;> rw[hf.1] at h <;> cases h
 · have e:=I.ok.mod.kin a o hk
   rcases hf.2.2.2.1 with z | z
   · exact I.ok.noex a o e z
   · exact absurd (zP (zM e) (zN I.ok.bsz z)) (yF _)
end
def uI (K:Frg) (x:Str) (l2:Addr):It:=
 ⟨fun i H=>∃ys,SqT K H l2 ys/\i < x.cps.size/\i < ys.length,
  fun i H v H'=>∃p c b,H p=none/\v = .ref p/\H'=upd H p (.tup [.str ⟨#[c]⟩,b])/\x.cps[i]?=some c/\∀ys,SqT K H l2 ys->ys[i]?=some b,
  fun i H=>x.cps.size<=i⟩
theorem XD {P:Program}{w:World}{K:Frg}{elts:List Expr}{kk:Nat}{tpos:Pos}(z TI TO i1 i2:Addr) (x:Str) (t:Tok) (l2:Addr) (d1:TI≠z) (d2:TO≠z) (d3:i1≠z) (d4:i2≠z) (d5:TI≠TO) (d6:TI≠i1) (d7:TI≠i2) (d8:TO≠i1) (d9:TO≠i2) (d10:i1≠i2) :
   Turn P w K (.Tuple elts kk tpos) (uI K x l2) [z,TI,TO,i1,i2] z (fun i h=>IsZip h z TI TO .none/\IsPair h TI (.ref i1) (.ref i2)/\(∃a b,IsPair h TO a b)/\h.IsStrIter i1 "str_ascii_iterator" x t i/\h.IsTupleIter i2 l2 i) where
 mem:=by simp
 obj:=fun i h ⟨a1,a2,⟨x,y,a3⟩,a4,a5⟩ b hb=>by
   simp only[yX,xX,or_false] at hb
   rcases hb with rfl | rfl | rfl | rfl | rfl
   · exact⟨_,a1,fun v q=>by cases q⟩
   · exact⟨_,a2,fun v q=>by cases q⟩
   · exact⟨_,a3,fun v q=>by cases q⟩
   · obtain⟨o,e,c,d⟩:=a4;exact⟨o,e,fun v q=>by rw[d] at q;cases q⟩
   · obtain⟨o,e,c,d⟩:=a5;exact⟨o,e,fun v q=>by rw[d] at q;cases q⟩
 keep:=fun i h h' ⟨a1,a2,⟨x,y,a3⟩,⟨o4,e4,r4⟩,a5⟩ k=>⟨k z (by simp) _ a1,k TI (by simp) _ a2,⟨x,y,k TO (by simp) _ a3⟩,⟨o4,k i1 (by simp) o4 e4,r4⟩,a5.at fun o e=>k i2 (by simp) o e⟩
 item:=by
   intro X hP hw hK hc i pins s σ H E I hf ⟨a1,a2,⟨x0,y0,a3⟩,a4,a5⟩ hg
   subst hP hw hK
   obtain⟨ys,hy,lx,ly⟩:=hg
   obtain⟨its2,ry,py,_⟩:=I.tuple hy
   obtain⟨v,hv,rv⟩:=ry.get (zV ly)
   have hx:x.cps[i]?=some x.cps[i]:=Array.getElem?_eq_getElem lx
   have py':s.heap.IsTuple l2 its2.toArray:=py
   have ne2:∀c∈[z,TI,TO,i1,i2],l2≠c:=fun c hc=>SN I (hf c hc) hy
   have D:ZAp z TI TO i1 i2 [i1] [i2,l2]:=⟨d2,d3,d4,d8,d9,d10,fun c hc=>by
       have:c=i1:=by simpa using hc
       subst this;exact⟨d3,d8.symm,d10⟩,fun c hc=>by
       rcases yX.mp hc with rfl | hc
       · exact⟨d4,d9.symm,d10.symm⟩
       · have:c=l2:=by simpa using hc
         subst this;exact⟨ne2 z (by simp),ne2 TO (by simp),ne2 i1 (by simp)⟩⟩
   have t1:∀k,GW [i1] (fun h=>h.IsStrIter i1 "str_ascii_iterator" x t k):=fun k h h' ⟨o,e,r⟩ q=>⟨o,q i1 (by simp) o e,r⟩
   have t2:∀k,GW [i2,l2] (fun h=>h.IsTupleIter i2 l2 k/\h.IsTuple l2 its2.toArray):=fun k h h' ⟨⟨o,e,r⟩,⟨o',e',r'⟩⟩ q=>⟨⟨o,q i2 (by simp) o e,r⟩,⟨o',q l2 (by simp) o' e',r'⟩⟩
   refine bG (R1:=fun u=>RelV (.str ⟨#[x.cps[i]]⟩) u) (R2:=fun u=>u=v) D (t1 i) (t1 (i+1)) (t2 i) (t2 (i+1)) (fun A=>gB hx) (fun A=>gC (ne2 i2 (by simp)) (by simpa using hv)) a1 a2 a3 a4 ⟨a5,py'⟩
     (fun h ⟨o,e,_⟩=>zM e) (fun h ⟨⟨o,e,_⟩,_⟩=>zM e) fun h' tk u u2 ru eu2 b1 b2 b3 b4 b5 b6 hk=>?_
   subst eu2
   refine⟨_,rfl,wpAny_letOwnedTupleGo_zip (s:={ s with heap:=h',toks:=tk }) b1 fun h2 c1 sb=>?_⟩
   have lt:∀{c o},s.heap.get? c=some o->s.heap.objs.size≠c:=fun e=>a5K (zM e)
   have keep:∀b o,b∉[z,TO,i1,i2]->s.heap.get? b=some o->h2.get? b=some o:=fun b o hb e=>by
     simp only[yX,xX,or_false,not_or] at hb
     exact sb.extBut b o hb.1 (hk b o hb.1 hb.2.1 hb.2.2.1 hb.2.2.2 e)
   have sub:∀b∈[z,TO,i1,i2],b∈[z,TI,TO,i1,i2]:=fun b hb=>by
     simp only[yX,xX,or_false] at hb ⊢
     rcases hb with h | h | h | h <;> simp[h]
   have hTz:s.heap.objs.size≠z:=lt a1
   have I1:Inv X pins σ (upd H s.heap.objs.size (.tup [.str ⟨#[x.cps[i]]⟩,ys[i]])) { s with heap:=h2,toks:=tk }:=I.turnedT (t':=tk) (ch:=[z,TO,i1,i2]) keep (fun b hb=>(hf b (sub b hb)).1)
     (fun b hb=>let q:=hf b (sub b hb);⟨q.2.2.2.1,q.2.1,q.2.2.2.2.1,q.2.2.2.2.2⟩) (zR _)
     ⟨by show 2<=sizeLine;decide,[u,u2],.cons ru (.cons rv .nil),⟨_,sb.extBut _ _ hTz b5,rfl,_,rfl⟩⟩
   refine⟨.ref s.heap.objs.size,_,I1,rfl,⟨s.heap.objs.size,x.cps[i],ys[i],I.hok.fresh (zR _),rfl,rfl,hx,fun ys' hy'=>?_⟩,
     ⟨c1,keep _ _ ?_ a2,⟨_,_,sb.extBut _ _ d2 b2⟩,b3.extBut sb.extBut d3,b4.1.extBut sb.extBut d4⟩,fun b hb=>?_⟩
   · rw[I.tuple_inj hy' hy]
     exact zV ly
   · simp[d1,d5,d6,d7]
   · have hlt:s.heap.objs.size≠b:=by
       simp only[yX,xX,or_false] at hb
       rcases hb with rfl | rfl | rfl | rfl | rfl
       · exact lt a1
       · exact lt a2
       · exact lt a3
       · obtain⟨o,e,_⟩:=a4;exact lt e
       · obtain⟨o,e,_⟩:=a5;exact lt e
     rw[AF (a8J hlt)]
     exact(hf b hb).1
 done:=by
   intro X hP hw hK hc i pins s σ H E I hf ⟨a1,a2,⟨x0,y0,a3⟩,a4,a5⟩ hg
   subst hP hw hK
   have hx:x.cps[i]?=none:=c0Z hg
   have D:ZAp z TI TO i1 i2 [i1] []:=⟨d2,d3,d4,d8,d9,d10,fun c hc=>by
       have:c=i1:=by simpa using hc
       subst this;exact⟨d3,d8.symm,d10⟩,fun c hc=>nomatch hc⟩
   have t1:GW [i1] (fun h=>h.IsStrIter i1 "str_ascii_iterator" x t i):=fun h h' ⟨o,e,r⟩ q=>⟨o,q i1 (by simp) o e,r⟩
   have sub:∀b∈[z,TO,i1,i2],b∈[z,TI,TO,i1,i2]:=fun b hb=>by
     simp only[yX,xX,or_false] at hb ⊢
     rcases hb with h | h | h | h <;> simp[h]
   refine bH (I.ok.hd hc) a1 (fun Q' E' hE' A' hA'=>bF D t1 (bI hA' hx) a1 a2 a3 a4 hE') fun h' tk hk=>⟨rfl,I.turnedL (t':=tk) (ch:=[z,TO,i1,i2]) (fun b o hb e=>?_) (fun b hb=>(hf b (sub b hb)).1) fun b hb=>let q:=hf b (sub b hb);⟨q.2.2.2.1,q.2.1,q.2.2.2.2.1,q.2.2.2.2.2⟩⟩
   simp only[yX,xX,or_false,not_or] at hb
   exact hk b o hb.1 hb.2.1 hb.2.2.1 hb.2.2.2 e
 self:=fun _ _ _ _ _ st h=>wpAny_pyIter_zip st.1 h
section
variable {X:Cx}{K:Frg}
def gD (K:Frg) (ta:TA):TI:=fun σ H R=>ta σ H fun vs H1=>False∨∃x b,vs=[.str x,.ref b]/\x.cps.all (· < 128)=true/\(∃ys,SqT K H1 b ys)/\R (uI K x b) H1
theorem lX {a b:Expr}{ta:TA}{p pos:Pos}{elts:List Expr}{kk:Nat}{tpos:Pos}(hg:Gl X "zip") (hm:X.mg "zip"=none) (ha:PA X [a,b] ta) (hs:starEach [a,b] X.env=[(false,eval a X.env),(false,eval b X.env)]:=by rfl) (hs2:starEach [b] X.env=[(false,eval b X.env)]:=by rfl) :
   PI X (.Tuple elts kk tpos) (.Call (.Name "zip" p) [a,b] [] pos) (gD X.K ta):=by
 intro pins s σ H R I h
 refine Call_ (JO I hg hm boot_zip (xH (thn (ha pos pins s σ H _ I h) fun us s1 ⟨vs,H1,I1,r1,q1⟩=>?_) (by rw[hs,hs2]) (by rw[hs2];rfl)))
 have ne:∀(m n:Nat),m≠n->s1.heap.objs.size+m≠s1.heap.objs.size+n:=fun m n h e=>h (Nat.add_left_cancel e)
 have fp:∀b∈[s1.heap.objs.size+4,s1.heap.objs.size+2,s1.heap.objs.size+3,s1.heap.objs.size,s1.heap.objs.size+1],JP X pins H1 b:=fun b hb=>by
   have hle:s1.heap.objs.size<=b:=by
     simp only[yX,xX,or_false] at hb
     rcases hb with rfl | rfl | rfl | rfl | rfl
     · exact a9Q _ _
     · exact a9Q _ _
     · exact a9Q _ _
     · exact zR _
     · exact a9Q _ _
   exact I1.fpOk hle (I1.hok.fresh hle)
 rcases q1 with q1 | ⟨x,l2,e,hx,⟨ys,hy⟩,q⟩
 · exact q1.elim
 · subst e
   cases r1 with
   | cons r rr=>
     cases rr with
     | cons r' rr=>
       cases rr;cases r'
       obtain⟨t,rfl⟩:=r
       obtain⟨its2,ry,py,_⟩:=I1.tuple hy
       refine bK (bJ (t:=t) hx) (lW (t:=l2) (items:=its2.toArray)) (fun h o q=>q.push o) rfl rfl trivial (show s1.heap.IsTuple l2 its2.toArray from py) fun h' b1 b2 b3 b4 b5 hk=>?_
       refine wpAny_pyIter_zip (s:={ s1 with heap:=h' }) b1 ?_
       exact⟨s1.heap.objs.size+4,[s1.heap.objs.size+4,s1.heap.objs.size+2,s1.heap.objs.size+3,s1.heap.objs.size,s1.heap.objs.size+1],_,_,H1,rfl,I1.kept (t':=s1.toks) hk,
         XD (s1.heap.objs.size+4) (s1.heap.objs.size+2) (s1.heap.objs.size+3) s1.heap.objs.size (s1.heap.objs.size+1) x t l2 (ne 2 4 (by decide)) (ne 3 4 (by decide)) (ne 0 4 (by decide)) (ne 1 4 (by decide)) (ne 2 3 (by decide)) (ne 2 0 (by decide)) (ne 2 1 (by decide)) (ne 3 0 (by decide)) (ne 3 1 (by decide)) (ne 0 1 (by decide)),
         ⟨b1,b2,⟨_,_,b3⟩,⟨_,b4,rfl,rfl⟩,⟨_,b5,rfl,rfl⟩⟩,fp,q⟩
theorem uJ {a b:Expr}{ta:TA}{p pos:Pos}{elts:List Expr}{kk:Nat}{tpos:Pos}(h:X.K=K) (hg:Gl X "zip") (hm:X.mg "zip"=none) (ha:PA X [a,b] ta) (hs:starEach [a,b] X.env=[(false,eval a X.env),(false,eval b X.env)]:=by rfl) (hs2:starEach [b] X.env=[(false,eval b X.env)]:=by rfl) :
   PI X (.Tuple elts kk tpos) (.Call (.Name "zip" p) [a,b] [] pos) (gD K ta):=h▸lX hg hm ha hs hs2
end
end L2
namespace L2
open PySem PySem.Spec PyProof.Rows
section
variable {X:Cx}
def uK:R2:=fun x y H Q=>(y = .non/\Q (.bl (decide (x = .non))) H)∨∃a b:Bool,x = .bl a/\y = .bl b/\Q (.bl (a==b)) H
theorem gE:OpR X (compareOp .Is) uK:=by
 intro pins s σ H x y v u Q I rx ry h
 rcases h with h | ⟨a,b,rfl,rfl,q⟩
 · exact pR pins s σ H x y v u Q I rx ry h
 · cases rx;cases ry
   refine wpAny_is_plain rfl ⟨.bl (a==b),H,I,?_,q⟩
   cases a <;> cases b <;> rfl
def oO:R2:=fun x y H Q=>(y = .non/\Q (.bl (!decide (x = .non))) H)∨∃a b:Bool,x = .bl a/\y = .bl b/\Q (.bl (!(a==b))) H
theorem ZB:OpR X (compareOp .IsNot) oO:=by
 intro pins s σ H x y v u Q I rx ry h
 rcases h with h | ⟨a,b,rfl,rfl,q⟩
 · exact jZ pins s σ H x y v u Q I rx ry h
 · cases rx;cases ry
   refine wpAny_isNot_plain rfl ⟨.bl (!(a==b)),H,I,?_,q⟩
   cases a <;> cases b <;> rfl
end
end L2
namespace DL
open PySem PySem.Spec L2
section
variable {K:Frg}{ρ:List (Option DS)}{M:Own}{Q:DS->Own->Prop}{QI:List PyData->Own->Prop}
theorem ZC {d:PyData}(q:Q (.d (.bool (DJ d))) M):D2 K uK (.d d) (.d .none) M Q:=EJ (rG q)
theorem UT {d:PyData}(q:Q (.d (.bool (!DJ d))) M):D2 K oO (.d d) (.d .none) M Q:=EJ (lE q)
theorem lY {ta:TA}(h:DA K ta ρ M fun xs M1=>∃z bs,xs=[.d (.str z),.d (.tuple bs)]/\z.cps.all (· < 128)=true/\z.cps.size<=bs.length/\QI (UJ (BL z) bs) M1):DI K (gD K ta) ρ M QI:=fun σ H R Rl k=>
 h σ H _ Rl fun vs H1 xs M1 o1 s1 t1 ⟨z,bs,e,hz,hl0,q⟩=>by
   subst e
   obtain⟨v,r,rfl,h1,v2,r2,rfl,h2,h3⟩:=s1
   cases h3
   rw[B7 h1]
   unfold SI DV at h2
   obtain⟨b,vb,rfl,hl2,hd2⟩:=h2
   have hlen:(UJ (BL z) bs).length=z.cps.size:=by unfold UJ;rw[zX,List.length_zip,aX];omega
   refine .inr ⟨z,b,rfl,hz,⟨vb,hl2.sq⟩,k _ (UJ (BL z) bs) H1 M1 o1 t1 ⟨fun i H' M' hi oa st=>?_,fun H' M' oa st=>?_,fun i H' M' x H2 oa st hi y=>?_⟩ q⟩
   · rw[hlen] at hi
     exact⟨vb,(hl2.grow st.grow).sq,hi,by rw[hd2.length];omega⟩
   · show z.cps.size<=_
     rw[hlen];exact zR _
   · obtain⟨p,c,xb,hp,rfl,rfl,hc,hy⟩:=y
     have e2:=hy vb (hl2.grow st.grow).sq
     obtain⟨db,g1,g2⟩:=hd2.get e2
     have gg:Grow K M'.W M'.W H' (upd H' p (.tup [.str ⟨#[c]⟩,xb])):=AW _ hp
     refine⟨oa.new hp,⟨gg⟩,.tuple [.str ⟨#[c]⟩,db],?_,?_⟩
     · unfold UJ
       rw[zF]
       have hs:(BL z)[i]?=some (.str ⟨#[c]⟩):=by unfold BL;rw[zF];simp[hc]
       have:((BL z).zip bs)[i]?=some (.str ⟨#[c]⟩,db):=by rw[a7W];exact⟨hs,g1⟩
       rw[this];rfl
     · unfold DV
       exact⟨p,_,rfl,.inl ⟨fun w=>w (oa.none hp),.inl AG⟩,DVs.cons (by unfold DV;rfl) (DVs.cons ((g2.grow st.grow).grow gg) DVs.nil)⟩
def DPs (K:Frg) (trs:List (TE×TE)) (ρ:List (Option DS)) (M:Own) (Q:List (Str×PyData)->Own->Prop):Prop:=
 ∀(σ:St) (H:Hp) (QQ:List (V×V)->Hp->Prop),Rel K M ρ σ H->(∀ps H' kds M',OA K H' M'->(∃vs,DVs K H' M'.W (kds.map (·.2)) vs/\ps=(kds.map fun k=>V.str k.1).zip vs)->Step K M M' H H'->Q kds M'->QQ ps H')->S5 trs σ H QQ
theorem KB {Q:List (Str×PyData)->Own->Prop}(h:Q [] M):DPs K [] ρ M Q:=fun σ H QQ R k=>k [] H [] M R.own ⟨[],DVs.nil,rfl⟩ Step.refl h
theorem BV {tk tv:TE}{trs:List (TE×TE)}{Q:List (Str×PyData)->Own->Prop}(h:DE K tk ρ M fun x M1=>∃k,x = .d (.str k)/\DE K tv ρ M1 fun y M2=>∃d,y = .d d/\DPs K trs ρ M2 fun kds M3=>Q ((k,d)::kds) M3):DPs K ((tk,tv)::trs) ρ M Q:=fun σ H QQ R kk=>
 h σ H _ R fun v H1 x M1 o1 s1 t1 h1=>by
   obtain⟨k,rfl,h1⟩:=h1
   refine h1 σ H1 _ (R.step o1 t1) fun u H2 y M2 o2 s2 t2 h2=>?_
   obtain⟨d,rfl,h2⟩:=h2
   refine h2 σ H2 _ (R.step o2 (t1.trans t2)) fun ps H3 kds M3 o3 ⟨vs,s3,e3⟩ t3 q=>?_
   refine kk _ H3 ((k,d)::kds) M3 o3 ⟨u::vs,DVs.cons (DV.grow t3.grow s2) s3,?_⟩ ((t1.trans t2).trans t3) q
   rw[B7 s1,e3];rfl
theorem HV:∀(kvs acc:List (Key×V)),((acc++kvs).map (·.1)).Nodup->EI acc kvs=acc++kvs
 | [],acc,_=>by simp[EI]
 | kv::r,acc,h=>by
   have h1:(acc.any fun x=>decide (x.1=kv.1))=false:=by
     rw[List.any_eq_false]
     intro x hx
     rw[xI,List.nodup_append] at h
     have:=h.2.2 x.1 (zL.mpr ⟨x,hx,rfl⟩) kv.1 (by simp)
     simpa using this
   show EI (EH acc kv.1 kv.2) r=_
   have e:EH acc kv.1 kv.2=acc++[kv]:=by
     unfold EH
     rw[h1];rfl
   rw[e,HV r (acc++[kv]) (by rw[b9Z];exact h)]
   simp
theorem gF {H:Hp}{W:Addr->Prop}:∀{kds:List (Str×PyData)}{vs:List V},DVs K H W (kds.map (·.2)) vs->DKV K H W (kds.map fun k=>(.str k.1,k.2)) ((kds.map fun k=>(a0K k.1:Key)).zip vs)
 | [],vs,h=>by unfold DKV;rfl
 | (k,d)::r,vs,h=>by
   rw[zI] at h
   unfold DVs at h
   obtain⟨v,r',rfl,h1,h2⟩:=h
   rw[zI]
   unfold DKV
   exact⟨a0K k,v,_,rfl,rfl,h1,gF h2⟩
theorem UU:∀(kds:List (Str×PyData)) (vs:List V),vs.length=kds.length->(kds.map fun k=>V.str k.1).zip vs=((kds.map fun k=>(a0K k.1:Key)).zip vs).map fun kv=>(kV kv.1,kv.2)
 | [],vs,_=>by simp
 | a::r,[],h=>by cases h
 | a::r,v::vs,h=>by
   rw[zI,zI,a7X,a7X,zI,UU r vs (by simpa using h)];rfl
theorem HW {trs:List (TE×TE)}(h:∀p,M p=none->DPs K trs ρ (M.put p (.d [])) fun kds M1=>M1 p=some (.d [])/\kds.length<=15/\(kds.map (·.1)).Nodup/\Q (.d (.dict (kds.map fun k=>(.str k.1,k.2)))) (M1.del p)):DE K (o9 trs) ρ M Q:=fun σ H QQ R k p hp=>by
 have hMp:=R.own.none hp
 obtain⟨oa0,st0⟩:=NY (kvs:=[]) (ks:=[]) R.own hp (by unfold DKV;rfl)
 refine h p hMp σ _ _ (R.step oa0 st0) fun ps H2 kds M2 o2 ⟨vs,hd,e⟩ t2 h2=>?_
 obtain⟨hm,hl,nd,q⟩:=h2
 obtain⟨ks,q1,q2⟩:=o2 p _ hm
 unfold DKV at q2
 subst q2
 have hlen:vs.length=kds.length:=by rw[hd.length,zX]
 refine⟨q1,(kds.map fun k=>(a0K k.1:Key)).zip vs,?_,by rw[List.length_zip,zX];omega,?_⟩
 · rw[e];exact UU kds vs hlen
 · have hk:(((kds.map fun k=>(a0K k.1:Key)).zip vs).map (·.1)).Nodup:=by
     rw[List.map_fst_zip (by rw[zX,hlen];exact zR _)]
     have:kds.map (fun k=>(a0K k.1:Key))=(kds.map (·.1)).map a0K:=by rw[zD];rfl
     rw[this]
     unfold List.Nodup
     rw[a4Z]
     exact nd.imp fun {a b} q e=>q (by injection e)
   rw[HV _ [] (by simpa using hk),List.nil_append]
   obtain⟨o3,t3⟩:=EK (kvs:=kds.map fun k=>(.str k.1,k.2)) (ks:=(kds.map fun k=>(a0K k.1:Key)).zip vs) o2 hm (gF hd)
   have hs:(M2.del p).Sub (M2.put p (.d (kds.map fun k=>(.str k.1,k.2)))):=fun b o e=>by
     unfold Own.del at e
     by_cases hb:b=p
     · rw[if_pos hb] at e;cases e
     · rw[if_neg hb] at e;rw[yH hb];exact e
   refine k _ _ (.d (.dict (kds.map fun k=>(.str k.1,k.2)))) (M2.del p) (o3.sub hs) ?_ (((st0.trans t2).trans t3).trans ⟨B6 hs⟩) q
   obtain⟨ks',q1',q2'⟩:=o3 p _ zU
   unfold SI DV
   exact⟨p,ks',rfl,fun w=>w (by unfold Own.del;rw[if_pos rfl]),.inl q1',q2'.grow (B6 hs)⟩
def GX (k:Str):List (PyData×PyData)->Option PyData
 | (.str a,d)::r=>if a=k then some d else GX k r
 | _::r=>GX k r
 | []=>none
theorem ZD {H:Hp}{W:Addr->Prop}{k:Str}:∀{kvs:List (PyData×PyData)}{ks:List (Key×V)},DKV K H W kvs ks->(∃d v,GX k kvs=some d/\EX ks (a0K k)=some v/\DV K H W d v)∨(GX k kvs=none/\EX ks (a0K k)=none)
 | [],ks,h=>by unfold DKV at h;subst h;exact .inr ⟨rfl,rfl⟩
 | (kd,d)::r,ks,h=>by
   unfold DKV at h
   obtain⟨k',v,r',rfl,rfl,h1,h2⟩:=h
   have ih:=ZD (k:=k) h2
   unfold EX at ih ⊢
   rw[a7V]
   cases k' with
   | inl i=>
     have e1:decide ((c0Q i:Key)=a0K k)=false:=rfl
     rw[e1]
     exact ih
   | inr a=>
     by_cases e:a=k
     · subst e
       left
       exact⟨d,v,by simp[e9,GX],by simp,h1⟩
     · have e1:decide ((a0K a:Key)=a0K k)=false:=decide_eq_false fun q=>e (by injection q)
       rw[e1]
       rcases ih with ⟨d',v',a1,a2,a3⟩ | ⟨a1,a2⟩
       · exact .inl ⟨d',v',by simp only[e9,GX,if_neg e];exact a1,a2,a3⟩
       · exact .inr ⟨by simp only[e9,GX,if_neg e];exact a1,a2⟩
theorem HX {td ty tx:TE}(h:DE K td ρ M fun x M1=>∃kvs,x = .d (.dict kvs)/\DE K ty ρ M1 fun y M2=>∃k,y = .d (.str k)/\DE K tx ρ M2 fun z M3=>∃dz,z = .d dz/\Q (.d ((GX k kvs).getD dz)) M3):DE K (X0 td ty tx) ρ M Q:=fun σ H QQ R kk=>
 h σ H _ R fun v H1 x M1 o1 s1 t1 h1=>by
   obtain⟨kvs,rfl,h1⟩:=h1
   have s1':=s1
   unfold SI DV at s1'
   obtain⟨a,ks,rfl,nw,ha,hk⟩:=s1'
   refine⟨a,rfl,.inl ⟨ks,ha⟩,h1 σ H1 _ (R.step o1 t1) fun u H2 y M2 o2 s2 t2 h2=>?_⟩
   obtain⟨k,rfl,h2⟩:=h2
   refine h2 σ H2 _ (R.step o2 (t1.trans t2)) fun z H3 zz M3 o3 s3 t3 h3=>?_
   obtain⟨dz,rfl,q⟩:=h3
   have s1'':=s1.step (t2.trans t3)
   unfold SI DV at s1''
   obtain⟨a',ks',e,nw',ha',hk'⟩:=s1''
   cases e
   rw[B7 s2]
   rcases ZD (k:=k) hk' with ⟨d,v,e1,e2,e3⟩ | ⟨e1,e2⟩
   · rw[e1] at q
     exact⟨some v,.inl ⟨ks',a0K k,ha',rfl,e2.symm⟩,kk _ H3 (.d d) M3 o3 e3 ((t1.trans t2).trans t3) q⟩
   · rw[e1] at q
     exact⟨none,.inl ⟨ks',a0K k,ha',rfl,e2.symm⟩,kk _ H3 (.d dz) M3 o3 s3 ((t1.trans t2).trans t3) q⟩
end
end DL
namespace L2
open PySem PySem.Spec PyProof.Rows
section
variable {prog:Program}{w:World}{A:Around}{E:Value->Shared->Prop}{s:Shared}
theorem UV {it l:Addr}{its:Array Value}(hne:l≠it):∀(n i:Nat) (s:Shared) (Q:List Value->Shared->Prop),s.heap.IsListIter it l i->s.heap.IsList l its->i+n<=its.size ->
   (∀h',h'.IsListIter it l (i+n)->Heap.SameBut it s.heap h'->Q ((its.toList.drop i).take n) { s with heap:=h' })->wpAny (model prog w) A (draw (.ref it) n) Q E s
 | 0,i,s,Q,hit,_,_,hQ=>by
   show wpAny _ _ (pure []) Q E s;exact zY (by simpa using hQ s.heap hit (Heap.SameBut.refl ..))
 | n+1,i,s,Q,hit,hl,hle,hQ=>by
   have hlt:i < its.size:=by omega
   show wpAny _ _ (pyNext (.ref it) >>= _) Q E s;refine zZ (wpAny_pyNext_list_item hit hl (x:=its[i]) (by simp[hlt]) fun g1 t1 q1=>?_)
   refine zZ (wpAny_holding (UV hne n (i+1) _ _ t1 (hl.extBut q1.extBut hne) (by omega) fun g2 t2 q2=>zY ?_))
   have hd:its.toList.drop i=its[i]::its.toList.drop (i+1):=by simp[List.drop_eq_getElem_cons,hlt]
   have h3:=hQ g2 (by rw[show i+(n+1)=i+1+n by omega];exact t2) (q1.trans q2)
   rw[hd,List.take_succ_cons] at h3
   exact h3
theorem XE {l:Addr}{its:Array Value}{Q:List Value->Shared->Prop}(hh:A.handled=none) (hl:s.heap.IsList l its)
   (hQ:∀h',Heap.ExtBut s.heap.objs.size s.heap h'->Q its.toList { s with heap:=h' }):wpAny (model prog w) A (unpackItems (.ref l) its.size none) Q E s:=by
 have hne:l≠s.heap.objs.size:=by obtain⟨o,ho,_⟩:=hl;exact zC (zM ho)
 unfold unpackItems;refine zZ ?_;unfold notIterableAtAll
 refine zZ (wpAny_specialOf hl.typeIs F.slot_list_iter.lookup ?_);refine zY ?_;simp only[b3Q,if_false]
 refine zZ (wpAny_holding (wpAny_pyIter_list hl ?_))
 refine zZ (wpAny_holding (UV hne its.size 0 _ _ ⟨_,yZ _ rfl,rfl,rfl⟩ (hl.push _) (by omega) fun g1 t1 q1=>?_))
 rw[show List.take its.size (List.drop 0 its.toList)=its.toList by rw[List.drop_zero];exact a9X (by simp),if_neg (by simp)]
 refine zZ (wpAny_holding (wpAny_pyNext_list_end hh t1 ((hl.push _).extBut q1.extBut hne) (by simp) fun g2 e2=>?_));simp only[Option.isSome_none,b3Q,if_false]
 exact zY (hQ g2 fun b o hb e=>e2 b o hb (q1.extBut b o hb (zW _ e)))
end
section
variable {X:Cx}{pos:Pos}
def gG (K:Frg) (n:Nat) (t:TGs):TG:=fun v σ H Q=>∃a xs,v = .ref a/\(SqT K H a xs∨SqL K H a xs)/\xs.length=n/\t xs σ H Q
theorem lZ {es:List Expr}{k:Nat}{t:TGs}{n:Nat}(hc:X.calm=true) (h:PGs X es t)
   (hn:(assignEach es X.env).length=n:=by rfl) (hst:(assignEach es X.env).findIdx? (·.1)=none:=by rfl):PG X (.Tuple es k pos) (gG X.K n t):=by
 intro pins s σ H v u Q I r hw
 obtain⟨a,xs,e1,hq,hl,hw⟩:=hw
 rcases hq with hq | hq
 · exact dA hc h hn hst pins s σ H v u Q I r ⟨a,xs,e1,hq,hl,hw⟩
 · subst e1
   cases r
   obtain⟨its,rv,pl,hz⟩:=I.list hq
   rw[arm_assign_Tuple]
   refine zZ (wpAny_standAt ?_)
   unfold unpack
   rw[show(assignEach es X.env).length=its.toArray.size by simp[hn,← hl,rv.length],hst]
   refine zZ (wpAny_holding (XE (I.ok.hd hc) pl.isList fun h' hx=>?_))
   have I1:Inv X pins σ H { s with heap:=h' }:=I.kept (t':=s.toks) fun b o e=>hx b o (zC (zM e)) e
   exact h pins _ σ H xs _ Q I1 (by simpa using rv) hw
end
end L2
namespace DL
open PySem PySem.Spec L2
theorem ZE {X:Cx}{K:Frg}{pos:Pos}{es:List Expr}{k:Nat}{t:TGs}{n:Nat}(hK:X.K=K) (hc:X.calm=true) (h:PGs X es t)
   (hn:(assignEach es X.env).length=n:=by rfl) (hst:(assignEach es X.env).findIdx? (·.1)=none:=by rfl):PG X (.Tuple es k pos) (gG K n t):=hK▸lZ hc h hn hst
section
variable {K:Frg}{M:Own}{ρ:List (Option DS)}{P:List (Option DS)->Own->Prop}
theorem m5 {n:Nat}{g:TGs}{ds:List PyData}(hn:ds.length=n) (h:DGs K g ds ρ M P):DG K (gG K n g) (.tuple ds) ρ M P:=fun σ H v QQ R dv k=>by
 unfold DV at dv
 obtain⟨a,vs,rfl,hl,hd⟩:=dv
 exact⟨a,vs,rfl,.inl hl.sq,by rw[hd.length];exact hn,h σ H vs QQ R hd k⟩
end
end DL
namespace L2
open PySem PySem.Spec PyProof.Rows PySem.W
section
variable {n:Nat}{lt:Nat->Nat->Bool}
def Good (n:Nat) (lt:Nat->Nat->Bool) {α:Type}(P:α->Prop):KasT α->Prop
 | .ret a=>P a
 | .ask i j k=>i < n/\j < n/\i≠j/\Good n lt P (k (lt i j))
theorem Good.mono {α:Type}{P Q:α->Prop}(h:∀a,P a->Q a):∀{t:KasT α},Good n lt P t->Good n lt Q t
 | .ret _,g=>h _ g
 | .ask _ _ _,⟨a,b,c,g⟩=>⟨a,b,c,Good.mono h g⟩
theorem Good.bind {α β:Type}{P:β->Prop}{f:α->KasT β}:∀{t:KasT α},Good n lt (fun a=>Good n lt P (f a)) t->Good n lt P (t.bind f)
 | .ret _,g=>g
 | .ask _ _ _,⟨a,b,c,g⟩=>⟨a,b,c,Good.bind g⟩
theorem Good.wp {α:Type}{cmp:Nat->Nat->(Bool->Shared->Prop)->Shared->Prop}{s:Shared}{P:α->Prop}{Q:α->Shared->Prop}
   (hc:∀i j (C:Bool->Shared->Prop),i < n->j < n->i≠j->C (lt i j) s->cmp i j C s) (hq:∀a,P a->Q a s):∀{t:KasT α},Good n lt P t->t.kasWp cmp Q s
 | .ret a,g=>hq a g
 | .ask i j k,⟨a,b,c,g⟩=>hc i j _ a b c (Good.wp hc hq g)
structure Strict (n:Nat) (lt:Nat->Nat->Bool):Prop where
 irr:∀i,lt i i=false
 tr:∀i j k,lt i j=true->lt j k=true->lt i k=true
 tot:∀i j,i < n->j < n->i≠j->lt i j=true∨lt j i=true
def Pm (n:Nat) (p:Array Nat):Prop:=p.toList.Perm (a1V n)
theorem Pm.size {p:Array Nat}(h:Pm n p):p.size=n:=by have:=h.length_eq;simpa using this
theorem Pm.bel {p:Array Nat}(h:Pm n p) {i:Nat}(hi:i < n):p.getD i 0 < n:=by
 have hs:i < p.size:=by rw[h.size];exact hi
 have:p[i]∈a1V n:=h.mem_iff.mp (by simp)
 simp only[Array.getD,hs,dite_true]
 exact List.mem_range.mp this
theorem rO {l:List Nat}(nd:l.Nodup) {i j:Nat}{hi:i < l.length}{hj:j < l.length}(e:l[i]=l[j]):i=j:=by
 rcases Nat.lt_trichotomy i j with h | h | h
 · exact absurd e (List.pairwise_iff_getElem.mp nd i j hi hj h)
 · exact h
 · exact absurd e.symm (List.pairwise_iff_getElem.mp nd j i hj hi h)
theorem Pm.inj {p:Array Nat}(h:Pm n p) {i j:Nat}(hi:i < n) (hj:j < n) (hij:i≠j):p.getD i 0≠p.getD j 0:=by
 have hsi:i < p.size:=by rw[h.size];exact hi
 have hsj:j < p.size:=by rw[h.size];exact hj
 simp only[Array.getD,hsi,hsj,dite_true]
 have nd:p.toList.Nodup:=h.nodup_iff.mpr List.nodup_range
 intro e
 have e':p.toList[i]'(by simpa using hsi)=p.toList[j]'(by simpa using hsj):=by simpa using e
 exact hij (rO nd e')
def Up (lt:Nat->Nat->Bool) (p:Array Nat) (k:Nat):Prop:=∀i j,i < j->j < k->lt (p.getD i 0) (p.getD j 0)=true
def Dn (lt:Nat->Nat->Bool) (p:Array Nat) (k:Nat):Prop:=∀i j,i < j->j < k->lt (p.getD j 0) (p.getD i 0)=true
theorem OD (S:Strict n lt) {p:Array Nat}(hp:Pm n p):∀(f m:Nat),1<=m->m+f<=n->Up lt p m ->
   Good n lt (fun r=>m<=r/\r<=m+f/\Up lt p r/\(r=m+f∨lt (p.getD r 0) (p.getD (r - 1) 0)=true)) (kas_asc p f m)
 | 0,m,h1,h2,h3=>⟨zR _,zR _,h3,.inl rfl⟩
 | f+1,m,h1,h2,h3=>by
   unfold kas_asc
   refine⟨hp.bel (by omega),hp.bel (by omega),hp.inj (by omega) (by omega) (by omega),?_⟩
   cases hc:lt (p.getD m 0) (p.getD (m - 1) 0) with
   | true=>exact⟨zR _,by omega,h3,.inr hc⟩
   | false=>
     have hup:lt (p.getD (m - 1) 0) (p.getD m 0)=true:=(S.tot _ _ (hp.bel (by omega)) (hp.bel (by omega)) (hp.inj (i:=m - 1) (j:=m) (by omega) (by omega) (by omega))).elim id fun z=>by rw[hc] at z;cases z
     dsimp only
     rw[if_neg nft]
     refine(OD S hp f (m+1) (by omega) (by omega) fun i j hij hj=>?_).mono fun r ⟨a,b,c,d⟩=>⟨by omega,by omega,c,d.elim (fun z=>.inl (by omega)) .inr⟩
     by_cases hjm:j < m
     · exact h3 i j hij hjm
     · have e:j=m:=by omega
       subst e
       by_cases hi:i=j - 1
       · subst hi;exact hup
       · exact S.tr _ _ _ (h3 i (j - 1) (by omega) (by omega)) hup
theorem R0 (S:Strict n lt) {p:Array Nat}(hp:Pm n p):∀(f m:Nat),1<=m->m+f<=n->Dn lt p m ->
   Good n lt (fun r=>r.1=p/\r.2.2=0/\m<=r.2.1/\r.2.1<=m+f/\Dn lt p r.2.1) (kas_desc f p m 0)
 | 0,m,h1,h2,h3=>⟨rfl,rfl,zR _,zR _,h3⟩
 | f+1,m,h1,h2,h3=>by
   unfold kas_desc
   refine⟨hp.bel (by omega),hp.bel (by omega),hp.inj (by omega) (by omega) (by omega),?_⟩
   cases hc:lt (p.getD m 0) (p.getD (m - 1) 0) with
   | true=>
     dsimp only
     rw[if_pos rfl,if_neg (yF 0)]
     refine(R0 S hp f (m+1) (by omega) (by omega) fun i j hij hj=>?_).mono fun r ⟨a,b,c,d,e⟩=>⟨a,b,by omega,by omega,e⟩
     by_cases hjm:j < m
     · exact h3 i j hij hjm
     · have e:j=m:=by omega
       subst e
       by_cases hi:i=j - 1
       · subst hi;exact hc
       · exact S.tr _ _ _ hc (h3 i (j - 1) (by omega) (by omega))
   | false=>
     have hup:lt (p.getD (m - 1) 0) (p.getD m 0)=true:=(S.tot _ _ (hp.bel (by omega)) (hp.bel (by omega)) (hp.inj (i:=m - 1) (j:=m) (by omega) (by omega) (by omega))).elim id fun z=>by rw[hc] at z;cases z
     dsimp only
     rw[if_neg nft]
     refine⟨hp.bel (by omega),hp.bel (by omega),hp.inj (by omega) (by omega) (by omega),?_⟩
     dsimp only
     rw[hup,if_pos rfl]
     exact⟨rfl,rfl,zR _,(show m<=_ by omega),h3⟩
theorem NA {α:Type}{xs ys:Array α}{i j:Nat}{d:α}(h:xs[i]?=ys[j]?):xs.getD i d=ys.getD j d:=by
 rw[b5V,b5V,h]
theorem gH {p:Array Nat}(hp:Pm n p) (i j:Nat):Pm n (kas_rev p i j):=(Array.perm_iff_toList_perm.mp (mirror_perm _ _ _ _)).trans hp
theorem XF (S:Strict n lt) {p:Array Nat}(hp:Pm n p) {m:Nat}(h1:1<=m) (h2:m<=n) (h3:Dn lt p m) :
   Good n lt (fun r=>1<=r.1/\r.1<=n/\Pm n r.2/\Up lt r.2 r.1) (kas_tail3 m n p):=by
 unfold kas_tail3
 refine Good.bind ((OD S (gH hp 0 m) (n - m) m h1 (by omega) fun i j hij hj=>?_).mono fun r ⟨a,b,c,_⟩=>⟨by omega,by omega,gH hp 0 m,c⟩)
 have hz:m<=p.size:=by rw[hp.size];exact h2
 have e:∀k,k < m->(kas_rev p 0 m).getD k 0=p.getD (m - 1 - k) 0:=fun k hk=>by
   refine NA ?_
   unfold kas_rev
   rw[getElem?_mirror_all (i:=0) hz k,if_pos ⟨xT _,hk⟩,Nat.zero_add]
 rw[e i (by omega),e j (by omega)]
 exact h3 _ _ (by omega) (by omega)
theorem PY (S:Strict n lt) {p:Array Nat}(hp:Pm n p) {m:Nat}(h2:m+1<=n) (h3:Dn lt p (m+1)) :
   Good n lt (fun r=>1<=r.1/\r.1<=n/\Pm n r.2/\Up lt r.2 r.1) (kas_descPart m n p):=by
 unfold kas_descPart
 refine Good.bind ((R0 S hp (n - (m+1)) (m+1) (by omega) (by omega) h3).mono fun r ⟨a,b,c,d,e⟩=>?_)
 rw[b,if_neg (yF 0),a]
 exact XF S hp (by omega) (by omega) e
theorem XG (S:Strict n lt) {p:Array Nat}(hp:Pm n p) (h2:1<=n) :
   Good n lt (fun r=>1<=r.1/\r.1<=n/\Pm n r.2/\Up lt r.2 r.1) (kas_count n p):=by
 unfold kas_count
 refine Good.bind ((OD S hp (n - 1) 1 (zR _) (by omega) fun i j hij hj=>by omega).mono fun r ⟨a,b,c,d⟩=>?_)
 by_cases hr:r=n
 · subst hr
   rw[if_pos (by simp)]
   exact⟨a,zR _,hp,c⟩
 · rw[if_neg (by simpa using hr)]
   have hlt:lt (p.getD r 0) (p.getD (r - 1) 0)=true:=d.resolve_left (by omega)
   by_cases h1:r > 1
   · rw[if_pos h1]
     refine⟨hp.bel (by omega),hp.bel (by omega),hp.inj (by omega) (by omega) (by omega),?_⟩
     dsimp only
     rw[c 0 (r - 1) (by omega) (by omega),if_pos rfl]
     exact⟨a,by omega,hp,c⟩
   · rw[if_neg h1]
     have e:r=1:=by omega
     subst e
     refine PY S hp (by omega) fun i j hij hj=>?_
     have e1:i=0:=by omega
     have e2:j=1:=by omega
     subst e1 e2
     exact hlt
theorem JY (S:Strict n lt) {p:Array Nat}(hp:Pm n p) {k:Nat}(hk:k < n) (hu:Up lt p k):∀(f l r:Nat),l<=r->r<=k->r - l<=f ->
   (∀i,i < l->lt (p.getD i 0) (p.getD k 0)=true)->(∀i,r<=i->i < k->lt (p.getD k 0) (p.getD i 0)=true) ->
   Good n lt (fun x=>x<=k/\(∀i,i < x->lt (p.getD i 0) (p.getD k 0)=true)/\∀i,x<=i->i < k->lt (p.getD k 0) (p.getD i 0)=true) (kas_place p k f l r)
 | 0,l,r,h1,h2,h3,h4,h5=>by
   unfold kas_place
   exact⟨by omega,h4,fun i hi hik=>h5 i (by omega) hik⟩
 | f+1,l,r,h1,h2,h3,h4,h5=>by
   unfold kas_place
   by_cases hge:l≥r
   · rw[if_pos hge]
     exact⟨by omega,h4,fun i hi hik=>h5 i (by omega) hik⟩
   · rw[if_neg hge]
     have hm:l<=(l+r)/2/\(l+r)/2 < r:=by omega
     generalize (l+r)/2=m at hm ⊢
     obtain⟨hm1,hm2⟩:=hm
     have hmk:m < k:=zP hm2 h2
     have hmn:m < n:=xQ hmk hk
     refine⟨hp.bel hk,hp.bel hmn,hp.inj hk hmn (a5K hmk),?_⟩
     cases hc:lt (p.getD k 0) (p.getD m 0) with
     | true=>
       dsimp only
       rw[if_pos rfl]
       refine JY S hp hk hu f l m hm1 (xR hmk) (by omega) h4 fun i hi hik=>?_
       by_cases e:i=m
       · subst e;exact hc
       · exact S.tr _ _ _ hc (hu _ _ (Nat.lt_of_le_of_ne hi (a8J e)) hik)
     | false=>
       dsimp only
       rw[if_neg nft]
       have hup:lt (p.getD m 0) (p.getD k 0)=true:=(S.tot _ _ (hp.bel hmn) (hp.bel hk) (hp.inj (i:=m) (j:=k) hmn hk (zC hmk))).elim id fun z=>by rw[hc] at z;cases z
       refine JY S hp hk hu f (m+1) r hm2 h2 (by omega) (fun i hi=>?_) h5
       by_cases e:i=m
       · subst e;exact hup
       · exact S.tr _ _ _ (hu _ _ (by omega) (by omega)) hup
theorem UW (S:Strict n lt):∀(f:Nat) {p:Array Nat}{k:Nat},Pm n p->k+f=n->Up lt p k->Good n lt (fun q=>Pm n q/\Up lt q n) (kas_bin f p k)
 | 0,p,k,hp,h1,h2=>by
   have e:k=n:=by omega
   subst e
   exact⟨hp,h2⟩
 | f+1,p,k,hp,h1,h2=>by
   unfold kas_bin
   refine Good.bind ((JY S hp (by omega) h2 k 0 k (xT _) (zR _) (by omega) (fun i hi=>by omega) fun i hi hk=>by omega).mono fun x ⟨hx,a,b⟩=>?_)
   have hks:k < p.size:=by rw[hp.size];omega
   refine UW S f ((Array.perm_iff_toList_perm.mp (bubble_perm _ _ _)).trans hp) (by omega) fun i j hij hj=>?_
   have e:∀q,(bubble p k (k - x)).getD q 0=if q=x then p.getD k 0 else if x < q/\q<=k then p.getD (q - 1) 0 else p.getD q 0:=fun q=>by
     have:=getElem?_bubble hks (k - x) (by omega) q
     rw[show k - (k - x)=x by omega] at this
     by_cases c1:q=x
     · rw[if_pos c1] at this ⊢;exact NA this
     · rw[if_neg c1] at this ⊢
       by_cases c2:x < q/\q<=k
       · rw[if_pos c2] at this ⊢;exact NA this
       · rw[if_neg c2] at this ⊢;exact NA this
   obtain⟨g,hg⟩:∃g:Nat->Nat,∀i,p.getD i 0=g i:=⟨_,fun _=>rfl⟩
   have h2':∀i j,i < j->j < k->lt (g i) (g j)=true:=fun i j x y=>by rw[← hg,← hg];exact h2 i j x y
   rw[e,e]
   simp only[hg] at a b ⊢
   clear e
   rcases Nat.lt_trichotomy j x with hj' | hj' | hj'
   · have hi':i < x:=xQ hij hj'
     rw[if_neg (zC hi'),if_neg (fun z=>Nat.lt_asymm z.1 hi'),if_neg (zC hj'),if_neg (fun z=>Nat.lt_asymm z.1 hj')]
     exact h2' _ _ hij (zP hj' hx)
   · subst hj'
     rw[if_neg (zC hij),if_neg (fun z=>Nat.lt_asymm z.1 hij),if_pos rfl]
     exact a _ hij
   · obtain⟨j',rfl⟩:∃j',j=j'+1:=⟨j - 1,by omega⟩
     have hjk:j' < k:=Nat.lt_of_succ_le (Nat.le_of_lt_succ hj)
     have hxj:x<=j':=Nat.le_of_lt_succ hj'
     rw[if_neg (a5K hj') (c:=j'+1=x),if_pos (c:=x < j'+1/\j'+1<=k) ⟨hj',hjk⟩,Nat.add_sub_cancel]
     rcases Nat.lt_trichotomy i x with hi' | hi' | hi'
     · rw[if_neg (zC hi'),if_neg (fun z=>Nat.lt_asymm z.1 hi')]
       exact h2' _ _ (zP hi' hxj) hjk
     · rw[if_pos hi']
       exact b _ hxj hjk
     · obtain⟨i',rfl⟩:∃i',i=i'+1:=⟨i - 1,by omega⟩
       have hij':i' < j':=Nat.lt_of_succ_lt_succ hij
       rw[if_neg (a5K hi'),if_pos (c:=x < i'+1/\i'+1<=k) ⟨hi',xQ hij' hjk⟩,Nat.add_sub_cancel]
       exact h2' _ _ hij' hjk
theorem bL (S:Strict n lt) (h1:1<=n):Good n lt (fun q=>Pm n q/\Up lt q n) (kas_sort n):=by
 unfold kas_sort
 refine Good.bind ((XG S (show Pm n _ from .refl _) h1).mono fun r ⟨a,b,c,d⟩=>?_)
 have e:max r.1 1=r.1:=by omega
 rw[e]
 by_cases hr:r.1 < n
 · rw[if_pos hr]
   exact UW S _ c (by omega) d
 · rw[if_neg hr]
   have e:r.1=n:=by omega
   rw[e] at d
   exact⟨c,d⟩
end
end L2
namespace L2
open PySem PySem.Spec PyProof.Rows PySem.W
def TupsN (h:Heap) (vs:List Value) (ns:List Str):Prop:=
 vs.length=ns.length/\∀(i:Nat) (v:Value) (nm:Str),vs[i]?=some v->ns[i]?=some nm->∃(a:Addr) (o:Obj) (xs:Array Value) (k:Nat) (t:Tok),v=a0X a/\h.get? a=some o/\o.cls = .type "tuple" /\ o.data = .seq xs k/\xs[0]?=some (.str nm t)
theorem TupsN.keep {h h':Heap}{vs:List Value}{ns:List Str}(t:TupsN h vs ns) (hk:∀b o,o.cls = .type "tuple" -> h.get? b=some o->h'.get? b=some o):TupsN h' vs ns:=
 ⟨t.1,fun i v nm e1 e2=>let ⟨a,o,xs,k,t',h1,h2,h3,h4,h5⟩:=t.2 i v nm e1 e2;⟨a,o,xs,k,t',h1,hk a o h3 h2,h3,h4,h5⟩⟩
theorem TupsN.kat {h:Heap}:∀{vs:List Value}{ns:List Str},TupsN h vs ns->∃fs,KatTups h vs fs/\fs.length=ns.length/\∀v∈fs,∃x t,v=b8J x t
 | [],[],_=>⟨[],trivial,rfl,fun v hv=>nomatch hv⟩
 | [],_::_,t=>by have:=t.1;simp at this
 | _::_,[],t=>by have:=t.1;simp at this
 | v::vs,nm::ns,t=>by
   obtain⟨a,o,xs,k,t',rfl,h2,h3,h4,h5⟩:=t.2 0 v nm rfl rfl
   obtain⟨fs,q1,q2,q3⟩:=TupsN.kat (vs:=vs) (ns:=ns) ⟨by have:=t.1;simpa using this,fun i v nm e1 e2=>t.2 (i+1) v nm (by simpa using e1) (by simpa using e2)⟩
   exact⟨_,KatTups.cons h2 h3 h4 h5 q1,by simp[q2],fun v hv=>(yX.mp hv).elim (fun e=>⟨_,_,e⟩) (q3 v)⟩
section
variable {prog:Program}{w:World}{A:Around}{E:Value->Shared->Prop}{s:Shared}
theorem gI {vs:List Value}{ns:List Str}(t:TupsN s.heap vs ns) (nd:ns.Nodup) {i j:Nat}(hi:i < ns.length) (hj:j < ns.length) (hij:i≠j) {C:Bool->Shared->Prop}(h:C (decide ((ns.getD i "").cps.toList < (ns.getD j "").cps.toList)) s) :
   kas_ask prog w A (tuples' true) vs i j C s:=by
 unfold kas_ask
 have hl:=t.1
 have e1:vs[i]?=some (vs.getD i a1J):=by rw[yU,zV (by omega)];rfl
 have e2:vs[j]?=some (vs.getD j a1J):=by rw[yU,zV (by omega)];rfl
 have f1:ns[i]?=some (ns.getD i ""):=by rw[yU,zV hi];rfl
 have f2:ns[j]?=some (ns.getD j ""):=by rw[yU,zV hj];rfl
 have hne:ns.getD i "" ≠ ns.getD j "" := fun e=>by
   rw[yU,yU,zV hi,zV hj] at e
   rcases Nat.lt_or_gt_of_ne hij with q | q
   · exact List.pairwise_iff_getElem.mp nd i j hi hj q e
   · exact List.pairwise_iff_getElem.mp nd j i hj hi q e.symm
 generalize vs.getD i a1J=v at e1 ⊢
 generalize vs.getD j a1J=u at e2 ⊢
 obtain⟨a,o,xs,k,t1,rfl,a2,a3,a4,a5⟩:=t.2 i v _ e1 f1
 obtain⟨b,o',ys,k',t2,rfl,b2,b3,b4,b5⟩:=t.2 j u _ e2 f2
 refine kat_lt a2 a4 b2 b4 ?_
 have x1:xs.toList[0]?=some (.str (ns.getD i "") t1):=by rw[b0X];exact a5
 have y1:ys.toList[0]?=some (.str (ns.getD j "") t2):=by rw[b0X];exact b5
 obtain⟨xr,hx⟩:∃r,xs.toList = .str (ns.getD i "") t1::r:=by
   cases hh:xs.toList with
   | nil=>rw[hh] at x1;cases x1
   | cons q r=>rw[hh] at x1;cases x1;exact⟨r,rfl⟩
 obtain⟨yr,hy⟩:∃r,ys.toList = .str (ns.getD j "") t2::r:=by
   cases hh:ys.toList with
   | nil=>rw[hh] at y1;cases y1
   | cons q r=>rw[hh] at y1;cases y1;exact⟨r,rfl⟩
 rw[hx,hy,a7X]
 refine kat_cons (wpAny_eqBool_str ?_)
 rw[decide_eq_false hne]
 refine kat_no ?_
 show wpAny (model prog w) A (oneLt' true _ _) C (fun _ _=>False) s
 exact oneLt_str h
theorem OE {a:Addr}{vs:List Value}{ns:List Str}{n:Nat}{P:PySem.Fin->Shared->Prop}(ho:s.heap.get? a=some (seqObj "list" vs.toArray n)) (t:TupsN s.heap vs ns) (nd:ns.Nodup) (h64:vs.length < 64)
   (h:∀p:List Nat,p.Perm (a1V vs.length)->(∀i j,i < j->j < vs.length->(ns.getD (p.getD i 0) "").cps.toList < (ns.getD (p.getD j 0) "").cps.toList) ->
     P (.done (.ret .none)) { s with heap:=sortedHeap s.heap a vs (p.map fun i=>vs.getD i a1J).toArray }) :
   wpAny (model prog w) A (Builtin.«list.sort» ⟨[.ref a],[]⟩) P E s:=by
 have ha:a < s.heap.objs.size:=zM ho
 rw[list_sort_plain];refine zZ (listItems_at ho rfl ?_)
 refine zZ (listUpdate_at ho rfl ?_ (by rw[zJ,sizeLine_eq];omega) (xT _));obtain⟨e1,ho1⟩:∃e1,(s.heap.update a (a6V fun _=>(#[]:Array Value))).get? a=some (seqObj "list" #[] e1):=⟨_,get?_update_seq ho (fun _=>#[])⟩
 refine zZ (seqEpoch_at ho1 rfl (zZ (wpAny_newTuple ?_ (by show vs.length<=_;rw[sizeLine_eq];omega))))
 refine zZ (wpAny_newList (wpAny_holding ?_) (xT _))
 have hsz:vs.toArray.size=vs.length:=zJ ..
 have keepT:∀b o,o.cls = .type "tuple" -> s.heap.get? b=some o->(((s.heap.update a (a6V fun _=>(#[]:Array Value))).push (seqObj "tuple" vs.toArray 0)).push (seqObj "list" #[] 0)).get? b=some o:=fun b o hc q=>by
   have hb:b≠a:=fun e=>by
     subst e
     rw[ho] at q
     cases q
     exact absurd hc (show ¬(b8Z "list"=b8Z "tuple") by decide)
   refine zW _ (zW _ ?_)
   rw[yB _ _ _ _ hb]
   exact q
 have ho6:(((s.heap.update a (a6V fun _=>(#[]:Array Value))).push (seqObj "tuple" vs.toArray 0)).push (seqObj "list" #[] 0)).get? a=some (seqObj "list" #[] e1):=zW _ (zW _ ho1)
 show wpAny (model prog w) A _ P E { s with heap:=((s.heap.update a (a6V fun _=>(#[]:Array Value))).push (seqObj "tuple" vs.toArray 0)).push (seqObj "list" #[] 0) }
 dsimp only
 by_cases h2:vs.toArray.size < 2
 · rw[if_pos h2,if_pos h2]
   refine zZ (zY ?_)
   rw[StateT.run_pure]
   refine zZ (zY (zZ (seqEpoch_at ho6 rfl ?_)))
   have e3:(arrOf (SortSt.mk' general' (vs.toArray.zip vs.toArray) #[] 7 none)).map (·.2)=vs.toArray:=by
     show(vs.toArray.zip vs.toArray).map (·.2)=vs.toArray
     apply Array.toList_inj.mp
     rw[Array.toList_map,Array.toList_zip]
     exact List.map_snd_zip (zR _)
   rw[e3]
   refine zZ (listUpdate_at ho6 rfl ?_ (xT _) (by rw[zJ,sizeLine_eq];omega))
   simp only[bne_self_eq_false,b3Q,if_false]
   have:=h (a1V vs.length) (.refl _) (fun i j hij hj=>by omega)
   have e4:(a1V vs.length).map (fun i=>vs.getD i a1J)=vs:=by
     apply b9X
     intro i
     rw[zF]
     by_cases hi:i < vs.length
     · rw[yA hi]
       simp[hi]
     · rw[a7K (by simp;omega),a7K (by omega)]
       rfl
   rw[e4] at this
   exact zY this
 · rw[if_neg h2,if_neg h2]
   have h2':2<=vs.length:=by omega
   have t6:=t.keep keepT
   obtain⟨fs,q1,q2,q3⟩:=t6.kat
   refine zZ (kat_kind (T:=.type "str") q1 (by have:=t.1;omega) (fun v hv=>?_) rfl ?_)
   · obtain⟨x,tt,rfl⟩:=q3 v hv
     exact Looks.of_pure rfl
   have hn:vs.length=ns.length:=t.1
   have S:Strict vs.length (fun i j=>decide (i < vs.length)&&(decide (j < vs.length)&&decide ((ns.getD i "").cps.toList < (ns.getD j "").cps.toList))):=by
     refine⟨fun i=>?_,fun i j k a b=>?_,fun i j hi hj hij=>?_⟩
     · simp[List.lt_irrefl]
     · simp only[a0V,decide_eq_true_eq] at a b ⊢
       exact⟨a.1,b.2.1,List.lt_trans a.2.2 b.2.2⟩
     · simp only[a0V,decide_eq_true_eq,hi,hj,true_and]
       have hne:(ns.getD i "").cps.toList≠(ns.getD j "").cps.toList:=fun e=>by
         have e':ns.getD i ""=ns.getD j "" := by
           generalize ns.getD i ""=x at e
           generalize ns.getD j ""=y at e
           obtain⟨⟨x⟩⟩:=x
           obtain⟨⟨y⟩⟩:=y
           simp at e
           rw[e]
         rw[yU,yU,zV (by omega),zV (by omega)] at e'
         rcases Nat.lt_or_gt_of_ne hij with q | q
         · exact List.pairwise_iff_getElem.mp nd i j (by omega) (by omega) q e'
         · exact List.pairwise_iff_getElem.mp nd j i (by omega) (by omega) q e'.symm
       by_cases c:(ns.getD i "").cps.toList < (ns.getD j "").cps.toList
       · exact .inl c
       · refine .inr ?_
         rcases List.le_iff_lt_or_eq.mp (List.not_lt.mp c) with z | z
         · exact z
         · exact absurd z.symm hne
   refine zZ (wpAny_mono (kat_run (ks:=vs) (G:=fun p s'=>s'={ s with heap:=((s.heap.update a (a6V fun _=>(#[]:Array Value))).push (seqObj "tuple" vs.toArray 0)).push (seqObj "list" #[] 0) }/\Pm vs.length p/\Up _ p vs.length)
     (Q:=fun st' s'=>s'={ s with heap:=((s.heap.update a (a6V fun _=>(#[]:Array Value))).push (seqObj "tuple" vs.toArray 0)).push (seqObj "list" #[] 0) }/\failedOf st'=none/\∃p:Array Nat,Pm vs.length p/\Up _ p vs.length/\(arrOf st').map (·.2)=List.toArray (p.toList.map fun i=>vs.getD i a1J))
     rfl h2' h64 (fun p st' s' a1 a2 a3 a4=>⟨a4.1,a3,p,a4.2.1,a4.2.2,kat_snds rfl a2⟩) ((bL S (by omega)).wp (fun i j C hi hj hij hC=>?_) fun p hp=>⟨rfl,hp.1,hp.2⟩)) ?_ fun _ _ e=>e)
   · refine gI t6 nd (by omega) (by omega) hij ?_
     simp only[hi,hj,decide_true,Bool.true_and] at hC
     exact hC
   · rintro⟨⟨⟩,st'⟩ s' ⟨rfl,hf,p,hp,hu,hm⟩
     dsimp only
     refine zZ (seqEpoch_at ho6 rfl ?_)
     rw[hm]
     refine zZ (listUpdate_at ho6 rfl ?_ (xT _) (by
       have z:=hp.length_eq
       simp only[xZ,a4X] at z
       simp only[zJ,zX,a4X]
       rw[sizeLine_eq];omega))
     rw[hf]
     simp only[bne_self_eq_false,b3Q,if_false]
     refine zY (h p.toList hp fun i j hij hj=>?_)
     have:=hu i j hij hj
     simp only[a0V,decide_eq_true_eq] at this
     have ed:∀k,p.toList.getD k 0=p.getD k 0:=fun k=>by rw[yU,b5V,b0X]
     rw[ed,ed]
     exact this.2.2
theorem UX {l:Addr}{vs:List Value}{Q:List Value->Shared->Prop}(hl:s.heap.IsList l vs.toArray∨s.heap.IsTuple l vs.toArray)
   (h:Q vs { s with heap:=(s.heap.push (seqObj "list" #[] 0)).update s.heap.objs.size (a6V (·++vs.toArray)) }) (hsz:vs.length<=sizeLine) :
   wpAny (model prog w) A (collect (.ref l)) Q E s:=by
 rcases hl with hl | ⟨o,ho,hc,n,hd⟩
 · exact collect_list hl h hsz
 unfold collect
 refine zZ (wpAny_runValue (codeAny_builtin entry_proto_collect' ?_))
 show wpAny _ _ (do again (.builtin "list.__iadd__" ⟨[← newList [],.ref l],[]⟩)) _ _ s
 refine zZ (wpAny_newList (zY ⟨Code.quiet_builtin _ (by decide +kernel),codeAny_builtin entry_list_iadd' ?_⟩))
 show wpAny _ _ (Builtin.List.listExtendWith (.ref s.heap.objs.size) (.ref l) (.ref s.heap.objs.size)) _ _ { s with heap:=s.heap.push (seqObj "list" #[] 0) }
 unfold Builtin.List.listExtendWith
 have ho':(s.heap.push (seqObj "list" #[] 0)).get? l=some o:=zW _ ho
 refine zZ (wpAny_typeOf (T:= "tuple") ⟨o,ho',hc⟩ ?_)
 have ht:(b8Z "tuple" == b8Z "tuple")=true:=by rfl
 rw[if_pos (by rw[ht];simp)]
 refine zZ (listItems_at ho' hd ?_)
 refine zZ (listItems_at (xs:=#[]) (n:=0) (yZ _ rfl) rfl ?_)
 rw[if_neg (by simp)]
 refine zZ (listUpdate_at (xs:=#[]) (n:=0) (yZ _ rfl) rfl ?_ (xT _) (by show(#[]++vs.toArray).size<=sizeLine+1;simp only[Array.size_append,zJ,b0K];omega))
 refine zY ?_
 show wpAny (model prog w) A (do
     let o ← load s.heap.objs.size
     match o.data with
     | .seq xs _=>pure xs.toList
     | _=>unsupported "internal:collect") Q E { s with heap:=(s.heap.push (seqObj "list" #[] 0)).update s.heap.objs.size (a6V (·++vs.toArray)) }
 refine zZ (wpAny_load (get?_update_seq (yZ _ rfl) _) ?_)
 show wpAny _ _ (pure ((#[]:Array Value)++vs.toArray).toList) Q E _
 rw[show((#[]:Array Value)++vs.toArray).toList=vs by simp]
 exact zY h
theorem UY {l:Addr}{vs:List Value}{ns:List Str}{Q:Value->Shared->Prop}(hl:s.heap.IsList l vs.toArray∨s.heap.IsTuple l vs.toArray) (t:TupsN s.heap vs ns) (nd:ns.Nodup) (h64:vs.length < 64)
   (h:∀p:List Nat,p.Perm (a1V vs.length)->(∀i j,i < j->j < vs.length->(ns.getD (p.getD i 0) "").cps.toList < (ns.getD (p.getD j 0) "").cps.toList) ->
     Q (.ref (s.heap.objs.size+1)) { s with heap:=sortedAll s.heap vs (p.map fun i=>vs.getD i a1J).toArray }) :
   wpAny (model prog w) A (call (.builtin "sorted") [.ref l]) Q E s:=by
 refine b7W kind_sorted plain_sorted entry_sorted (args_sorted1 _) ?_
 unfold Builtin.«sorted»;refine zZ (m:=checkCount "sorted" 1 1 _) (zY (zZ (UX hl (zZ (wpAny_newList ?_ (by rw[sizeLine_eq];omega))) (by rw[sizeLine_eq];omega))))
 generalize hH:(s.heap.push (seqObj "list" #[] 0)).update s.heap.objs.size (a6V (·++vs.toArray))=H1
 have hsz:H1.objs.size=s.heap.objs.size+1:=by rw[← hH,Heap.size_update,size_push']
 have old:∀b o,s.heap.get? b=some o->(H1.push (seqObj "list" vs.toArray 0)).get? b=some o:=fun b o q=>by
   refine zW _ ?_
   rw[← hH,yB _ _ _ _ (zC (zM q))]
   exact zW _ q
 have hoL:(H1.push (seqObj "list" vs.toArray 0)).get? (s.heap.objs.size+1)=some (seqObj "list" vs.toArray 0):=by
   rw[← hsz];exact yZ _ rfl
 show wpAny _ _ _ _ _ { s with heap:=H1.push (seqObj "list" vs.toArray 0) }
 rw[hsz]
 refine zZ (wpAny_holding (wpAny_call_entry slot_list_sort ⟨_,hoL,rfl⟩ entry_list_sort (OE hoL (t.keep fun b o _ q=>old b o q) nd h64 fun p a1 a2=>⟨_,rfl,?_⟩) (args_list_sort _)))
 have:=h p a1 a2
 unfold sortedAll at this
 rw[hH] at this
 exact zY ⟨_,rfl,this⟩
theorem UZ {d:Addr}{kvs:List (Key×Value)}{ss:List Str}{Q:Value->Shared->Prop}(hh:A.handled=none) (hd:(d==sysModules)=false) (dd:s.heap.DictOf (AH prog w) d kvs) (hk:kvs.map (·.1)=ss.map a0K) (h64:ss.length < 64)
   (h:∀(h1 h':Heap) (tk:Nat) (out:List Value) (e:Nat) (ss':List Str),(∀b o,s.heap.get? b=some o->h1.get? b=some o)->(∀b o,h1.get? b=some o->h'.get? b=some o)->h'.get? h1.objs.size=some (seqObj "list" out.toArray e)->StrsAre out ss'->ss'.Perm ss->sortedS ss'=true->Q (.ref h1.objs.size) { s with heap:=h',toks:=tk }) :
   wpAny (model prog w) A (call (.builtin "sorted") [.ref d]) Q E s:=by
 refine b7W kind_sorted plain_sorted entry_sorted (args_sorted1 _) ?_
 obtain⟨ep,hat⟩:=dd.dictAt
 have hlen:kvs.length=ss.length:=by have:=congrArg b6J hk;simpa using this
 unfold Builtin.«sorted»;refine zZ (m:=checkCount "sorted" 1 1 _) (zY (zZ (kdu_collect (A:=A.in1) (kdl_dict (kvs:=kvs) (ep:=ep) hd) hh hat (by rw[hlen,sizeLine_eq];omega) fun h' tk acc hold hacc=>?_)))
 have hl:acc.toList.length=ss.length:=by rw[a4X,hacc.1,hlen]
 have hS:StrsAre acc.toList ss:=by
   have go:∀(vs:List Value) (zs:List Str),vs.length=zs.length->(∀(i:Nat) v x,vs[i]?=some v->zs[i]?=some x->∃t,v=b8J x t)->StrsAre vs zs:=by
     intro vs
     induction vs with
     | nil=>intro zs hz _;cases zs with
       | nil=>exact .nil
       | cons _ _=>simp at hz
     | cons v vs ih=>intro zs hz hv;cases zs with
       | nil=>simp at hz
       | cons x zs=>
         obtain⟨t,rfl⟩:=hv 0 v x rfl rfl
         exact .cons x t (ih zs (by simpa using hz) fun i v x e1 e2=>hv (i+1) v x (by simpa using e1) (by simpa using e2))
   refine go _ _ hl fun i v x e1 e2=>?_
   obtain⟨k,y,g1,g2⟩:=hacc.2 i v (by rw[← b0X];exact e1)
   have e3:(kvs.map (·.1))[i]?=some k:=by rw[zF,g1];rfl
   rw[hk,zF,e2] at e3
   cases e3
   have g2':K6 (.inr x) v=true:=g2
   rcases B1 g2' with ⟨i,t,e,_⟩ | ⟨z,t,e,e'⟩
   · cases e
   · cases e;exact⟨t,e'⟩
 refine zZ (wpAny_newList ?_ (by rw[hl,sizeLine_eq];omega))
 have hoL:(h'.push (seqObj "list" acc.toList.toArray 0)).get? h'.objs.size=some (seqObj "list" acc.toList.toArray 0):=yZ _ rfl
 show wpAny _ _ _ _ _ { s with heap:=h'.push (seqObj "list" acc.toList.toArray 0),toks:=tk }
 refine zZ (wpAny_holding (wpAny_call_entry (s:={ s with heap:=h'.push (seqObj "list" acc.toList.toArray 0),toks:=tk }) slot_list_sort ⟨_,hoL,rfl⟩ entry_list_sort (list_sort_treeK strKind_oneLt hoL hS.keysOf (fun v₁ v₂ rest e=>keyKind_strs (by rw[← e];exact hS)) (by rw[hl];exact h64) fun st' hp hs=>⟨_,rfl,?_⟩) (args_list_sort _)))
 obtain⟨ss',h1,h2,h3⟩:=sorted_out_str hS hp hs
 obtain⟨e,he⟩:=sortedHeap_at (out:=(arrOf st').map (·.2)) hoL
 refine zY ⟨_,rfl,h h' _ tk ((arrOf st').map (·.2)).toList e ss' hold (fun b o q=>?_) (by rw[Array.toArray_toList];exact he) h1 h2 h3⟩
 have lt:b < h'.objs.size:=zM q
 rw[sortedHeap_old (zC lt) (by rw[size_push'];exact b1Q lt)]
 exact zW _ q
end
end L2
namespace L2
open PySem PySem.Spec PyProof.Rows
theorem HY {prog:Program}{w:World}{A:Around}{R:Result->Shared->Prop}{s:Shared}{kx vx target iter:Expr}{ifs:List Expr}{scope:Scope}{pos:Pos}{it:Value}{D:Addr}{env:Env}(I:Nat->Shared->Prop)
   (turn:∀n s,I n s->wpAny (model prog w) A (pyNext it) (fun r s₁=>match r with
     | none=>R (.ok .next) s₁
     | some v=>wpAny (model prog w) A (letOwnedTupleGo target it v) (fun _ s₀=>wpAny (model prog w) A (assign target env v) (fun _ s₂=>
         wpAny (model prog w) A (JS ifs env) (fun ok s₃=>
           if ok=true then wpAny (model prog w) A (eval kx env) (fun kv s₄=>wpAny (model prog w) A (eval vx env) (fun vv s₅=>
             wpAny (model prog w) A (dictSet D kv vv) (fun _ s₆=>∃m,m < n/\I m s₆) (fun _ _=>False) s₅) (fun _ _=>False) s₄) (fun _ _=>False) s₃
           else ∃m,m < n/\I m s₃) (fun _ _=>False) s₂) (fun _ _=>False) s₀) (fun _ _=>False) s₁) (fun _ _=>False) s)
   (n:Nat) (h:I n s) :
   codeAny (model prog w) A (.compLoop (.DictComp kx vx [⟨target,iter,ifs,0⟩] scope pos) 0 it (.ref D) env) R s:=by
 refine codeAny_loop rfl I (fun n s hI=>?_) n h
 show wpAny _ A ((compTurn (.DictComp kx vx [⟨target,iter,ifs,0⟩] scope pos) 0 it (.ref D) env).onRaise (fun x=>do noteFrame x env;theTreesLotGoes x)) _ _ s
 refine wpAny_noted ?_
 rw[compTurn_dict]
 refine zZ (wpAny_standAt (zZ (wpAny_mono (AY (turn n s hI)) (fun r s₁ h₁=>?_) fun _ _ h'=>h')))
 cases r with
 | none=>exact zY h₁
 | some v=>
   refine zZ (wpAny_mono (AY h₁) (fun _ s₀ h₀=>?_) fun _ _ h'=>h')
   refine zZ (wpAny_mono (AY h₀) (fun _ s₂ h₂=>zZ (wpAny_mono (AY h₂) (fun ok s₃ h₃=>?_) fun _ _ h'=>h')) fun _ _ h'=>h')
   cases ok with
   | false=>exact zY ⟨rfl,h₃⟩
   | true=>
     exact zZ (zZ (wpAny_mono (AY h₃) (fun kv s₄ h₄=>zZ (wpAny_holding (wpAny_mono (AY h₄) (fun vv s₅ h₅=>zZ (wpAny_standAt (wpAny_holding (wpAny_mono (AY h₅) (fun _ s₆ h₆=>zY ⟨rfl,h₆⟩) fun _ _ h'=>h')))) fun _ _ h'=>h'))) fun _ _ h'=>h'))
theorem rP {X:Cx}{pins:List (Addr×Obj)}{σ:St}{H:Hp}{s:Shared}{a:Addr}{kvs:List (Key×V)}{k:Key}{v:V}{u r:Value}{A:Around}{E:Value->Shared->Prop}{Q:Unit->Shared->Prop}
   (I:Inv X pins σ H s) (e:H a=some (.dK kvs)) (l:kvs.length < sizeLine) (ry:RelV (kV k) u) (rv:RelV v r) (h:∀s',Inv X pins σ (upd H a (.dK (EH kvs k v))) s'->Q () s'):wpAny (model X.prog X.w) A (dictSet a u r) Q E s:=by
 obtain⟨z,hd,vs,rel,dd⟩:=UA I.hok e
 have hz:vs.length<=sizeLine:=by rw[← rel.length];exact z
 have hl:(EH kvs k v).length<=sizeLine:=by have:=F0 kvs k v;omega
 refine wpAny_dictSet_pairs (hsz:=hz) (HP ry) dd fun h' dd' hs=>h _ ?_
 have he:∃q,h'.get? a=some q:=let ⟨q,_,_,hq,_⟩:=dd';⟨q,hq⟩
 exact IU I (by rw[e];exact a6J) hs he (L9 hl hd (rel.put k rv) dd')
def XH (fr:List (Option Nat)) (wi:TI) (g:TG) (tt:TT) (tk tv:TE):TE:=fun σ H Q=>wi σ H fun J H1=>∀D,H1 D=none->∃W:Nat->Nat->List (Key×V)->Hp->Prop,(∃m,W 0 m [] (upd H1 D (.dK []))) /\
 ∀i m ys H2,W i m ys H2->H2 D=some (.dK ys)/\((J.stop i H2/\Q (.ref D) H2)∨(J.go i H2/\∀x H3,J.yld i H2 x H3->g x (capt fr σ) H3 fun σ2 H4=>
   (∀(i:Nat) v,(capt fr σ)[i]?=some (some v)->σ2[i]?=some (some v))/\tt σ2 H4 fun c H5=>if c=true then tk σ2 H5 fun x H6=>tv σ2 H6 fun y H7=>∃ys' k,x=kV k/\H7 D=some (.dK ys')/\ys'.length < sizeLine/\∃m',m' < m/\W (i+1) m' (EH ys' k y) (upd H7 D (.dK (EH ys' k y)))
     else ∃ys' m',m' < m/\W (i+1) m' ys' H5))
section
variable {X:Cx}{scope:Scope}{NC:List Str}{fr:List (Option Nat)}{pins:List (Addr×Obj)}{σ:St}{H:Hp}{s:Shared}
theorem bM {kx vx iter tg:Expr}{ifs:List Expr}{pos cpos:Pos}{wi:TI}{g:TG}{tt:TT}{tk tv:TE}{use:Option (Value->Sem Unit)}{Q:VK}{QQ:Value->Shared->Prop}
   (hc:X.calm=true) (S:CSc X scope NC fr) (hi:PI X tg iter wi)
   (hb:∀(C:Addr) (s:Shared) (H:Hp) (ex:List Addr) (pn:List (Addr×Obj)),PG (BA X scope NC C s H ex pn) tg g/\PTs (BA X scope NC C s H ex pn) ifs tt/\PE (BA X scope NC C s H ex pn) kx tk/\PE (BA X scope NC C s H ex pn) vx tv)
   (I:Inv X pins σ H s) (hu:X.A.units+1 < cLine) (h:XH fr wi g tt tk tv σ H Q)
   (fin:∀(D C:Addr) (H':Hp) (s':Shared) (m:Str->Option Value) (oC:Obj),Inv X (pins++[(C,oC)]) σ H' s'->s'.heap.Ns C m->Q (.ref D) H' ->
     (∀(pins':List (Addr×Obj)) (σ2:St) (H2:Hp) (s2:Shared) (h2:Heap),Inv X (pins++[(C,oC)]) σ2 H2 s2->Heap.SameBut C s2.heap h2->Inv X pins σ2 H2 { s2 with heap:=h2 }) ->
     s'.heap.get? C=some oC ->
     match use with
     | none=>∀h',Heap.SameBut C s'.heap h'->QQ (.ref D) { s' with heap:=h' }
     | some u=>wpAny (model X.prog X.w) X.A (u (.ref D)) (fun _ s''=>∃m,s''.heap.Ns C m/\∀h',Heap.SameBut C s''.heap h'->QQ .none { s'' with heap:=h' }) X.xe s')
   (hs:∀x,foldedSetIterable iter X.env x=pure x) :
   wpAny (model X.prog X.w) X.A (comprehension (.DictComp kx vx [⟨tg,iter,ifs,0⟩] scope pos) scope X.env cpos newDict false (eval iter X.env) use) QQ X.xe s:=by
 refine wpAny_comprehension_free (use:=use) rfl hs (YU (S.has I.ok)) S.kind S.names (thn (hi pins s σ H _ I h) fun v s1 h1=>thn h1 fun itv s2 h2=>?_)
 obtain⟨it,fp,tn,J,H2,e,I2,T,st2,f2,hq⟩:=h2
 subst e
 have hDn:H2 s2.heap.objs.size=none:=I2.hok.fresh (zR _)
 obtain⟨W,⟨m0,w0⟩,turn⟩:=hq s2.heap.objs.size hDn
 refine xM (wpAny_newFunctionEnv S.nocell (by intro y hy;simp at hy) (fun h₁ hns₁ hsb₁=>?_) S.kind)
 dsimp only at hns₁ hsb₁ ⊢
 generalize hs3:({ s2 with heap:=s2.heap.push { cls:=.type "dict", dict:=none,data:=.dict #[] } }:Shared)=s3
 have hh3:s2.heap.push { cls:=.type "dict", dict:=none,data:=.dict #[] }=s3.heap:=by rw[← hs3]
 have I3:Inv X pins σ (upd H2 s2.heap.objs.size (.dK [])) s3:=by
   rw[← hs3]
   refine I2.laid (t':=s2.toks) (fun b u e=>zW _ e) (zR _) ?_
   exact NR s2.heap I2.big
 rw[hh3] at hns₁ hsb₁ ⊢
 have sz3:s3.heap.objs.size=s2.heap.objs.size+1:=by rw[← hh3,a5J]
 have lt2:∀b∈fp,b < s2.heap.objs.size:=fun b hb=>by
   obtain⟨o,e,_⟩:=T.obj _ _ st2 b hb
   exact zM e
 have lt3:∀b∈fp,b < s3.heap.objs.size:=fun b hb=>by rw[sz3];exact b1Q (lt2 b hb)
 have f3:∀b∈fp,JP X pins (upd H2 s2.heap.objs.size (.dK [])) b:=fun b hb=>⟨by rw[AF (zC (lt2 b hb))];exact(f2 b hb).1,(f2 b hb).2⟩
 have keep1:∀b o,s3.heap.get? b=some o->h₁.get? b=some o:=fun b o e=>hsb₁.extBut b o (zC (zM e)) (zW _ e)
 generalize hC:s3.heap.objs.size=C at hns₁ hsb₁ ⊢
 have I0:Inv (BA X scope NC C s3 (upd H2 s2.heap.objs.size (.dK [])) fp (X.pn++pins)) [] (capt fr σ) (upd H2 s2.heap.objs.size (.dK [])) { s2 with heap:=h₁,toks:=s2.toks+([]:List (Str×Value)).length }:=by
   have:=NV (tk:=s2.toks+([]:List (Str×Value)).length) (h1:=h₁) S I3 f3 lt3 (hC▸hns₁) keep1
   rw[hC] at this
   rw[← hs3] at this
   rw[← hs3]
   exact this
 obtain⟨hbg,hbt,hbk,hbv⟩:=hb C s3 (upd H2 s2.heap.objs.size (.dK [])) fp (X.pn++pins)
 generalize hX':BA X scope NC C s3 (upd H2 s2.heap.objs.size (.dK [])) fp (X.pn++pins)=X' at I0 hbg hbt hbk hbv
 have eP:X'.prog=X.prog:=by rw[← hX'];rfl
 have eW:X'.w=X.w:=by rw[← hX'];rfl
 have eK:X'.K=X.K:=by rw[← hX'];rfl
 have eA:X'.A=X.A:=by rw[← hX'];rfl
 have eE:X'.env=compEnvC scope (JR X.env.cells scope.names []) C X.env:=by rw[← hX'];rfl
 have eX:X'.xe=fun _ _=>False:=by rw[← hX'];rfl
 have ec:X'.calm=true:=by rw[← hX'];exact hc
 have stat:∀{H':Hp},(∀b∈fp,H' b=none)->∀b∈fp,JP X' [] H' b:=fun {H'} hn b hb=>by
   obtain⟨q1,q2,q3,q4,q5,q6⟩:=f3 b hb
   rw[← hX']
   exact⟨hn b hb,by show b≠C;rw[← hC];exact zC (lt3 b hb),fun z=>(yX.mp (I3.stkSub b z)).elim q2 q3,.inl hb,fun x c e=>q5 x c (BH e),fun p hp=>q6 p (by rw[a8X] at hp;exact hp)⟩
 have ends:∀(i m:Nat) (ys:List (Key×V)) (H':Hp) (s':Shared),Inv X' [] (capt fr σ) H' s'->Q (.ref s2.heap.objs.size) H' ->
     compPost (model X.prog X.w) X.A X.xe use QQ (.ref s2.heap.objs.size) C (.ok .next) s':=by
   intro i m ys H' s' I' q'
   have eC:X'.env.locals=C:=by rw[eE];rfl
   obtain⟨mC,hnC,_⟩:=I'.loc
   rw[eC] at hnC
   have hCn:H' C=none:=by have:=I'.free;rw[eC] at this;exact this
   have un:Un (frs X.stack) fp (upd H2 s2.heap.objs.size (.dK [])) H' s3.heap s'.heap:=by
     have:=I'.base
     rw[← hX'] at this
     exact this
   have os':s'.os=s3.os:=by have:=I'.os;rw[← hX'] at this;exact this
   have hok':HOk X.prog X.w H' s'.heap:=by have:=I'.hok;rw[eP,eW] at this;exact this
   have Iout:Inv X pins σ H' s':=I3.call' (ch:=fp) os' un hok' I'.bare fun b hb=>⟨(f3 b hb).2.2.2.1,(f3 b hb).2.1,(f3 b hb).2.2.2.2.1,(f3 b hb).2.2.2.2.2⟩
   have C1:C≠X.env.locals:=by rw[← hC];exact a5K I3.lt
   have C2:C∉X.fs:=by rw[← hC];exact I3.nofs (zR _)
   have C3:X.s₀.heap.objs.size<=C:=by rw[← hC];exact I3.sz
   have C4:∀x c,X.env.cells.lookup x=some c->c≠C:=fun x c e z=>by
     obtain⟨v,q⟩:=I3.cell x c e
     rw[z,← hC] at q
     exact absurd q.lt (yF _)
   have C5:∀p∈X.pn++pins,p.1≠C:=fun p hp z=>by
     have:=zM (I3.pin p hp).1
     rw[z,← hC] at this
     exact absurd this (yF _)
   obtain⟨oC,esC,epC,hoC,hdC,hrC⟩:=id hnC
   have Ipin:Inv X (pins++[(C,oC)]) σ H' s':=Iout.pins_of fun p hp=>(yW.mp hp).elim (fun z=>Iout.pin p (zB _ z)) fun z=>by
     have e:p=(C,oC):=by simpa using z
     subst e
     exact⟨hoC,hCn,C1,C2,fun v z=>by rw[hdC] at z;cases z⟩
   have res:=fin s2.heap.objs.size C H' s' mC oC Ipin hnC q' (fun _ σ2 H3 s4 h4 I4 sb=>by
     have J4:Inv X pins σ2 H3 s4:=I4.unpinned
     have hn4:H3 C=none:=(I4.pin (C,oC) (zB _ (zB _ (by simp)))).2.1
     exact J4.turned (t':=s4.toks) (it:=C) (fun b o hb e=>sb.extBut b o hb e) hn4 C1 (.inr C3) C4 C5) hoC
   cases use with
   | none=>exact⟨mC,hnC,res⟩
   | some u=>exact res
 have loop:∀s':Shared,s'={ s2 with heap:=h₁,toks:=s2.toks+([]:List (Str×Value)).length } ->
     codeAny (model X.prog X.w) X.A (.compLoop (.DictComp kx vx [⟨tg,iter,ifs,0⟩] scope pos) 0 (.ref it) (.ref s2.heap.objs.size) (compEnvC scope (JR X.env.cells scope.names []) C X.env))
       (compPost (model X.prog X.w) X.A X.xe use QQ (.ref s2.heap.objs.size) C) s':=by
   rintro s' rfl
   refine HY (fun n s'=>∃i ys H',Inv X' [] (capt fr σ) H' s'/\tn i s'.heap/\(∀b∈fp,H' b=none)/\W i n ys H') ?_ m0
     ⟨0,[],_,I0,T.keep _ _ _ st2 (fun b hb o e=>keep1 b o (by rw[← hh3];exact zW _ e)),fun b hb=>(f3 b hb).1,w0⟩
   rintro n s5 ⟨i,ys,H5,I5,st5,fr5,w5⟩
   obtain⟨hD5,hturn⟩:=turn i n ys H5 w5
   rcases hturn with ⟨stop,qn⟩ | ⟨go,step⟩
   · have:=T.done X' eP eW eK ec i [] s5 (capt fr σ) H5 (fun _ _=>False) I5 (stat fr5) st5 stop
     rw[eA] at this
     refine thn this fun r s6 ⟨hr,I6⟩=>?_
     subst hr
     exact ends i n ys H5 s6 I6 qn
   · have:=T.item X' eP eW eK ec i [] s5 (capt fr σ) H5 (fun _ _=>False) I5 (stat fr5) st5 go
     rw[eA] at this
     refine thn this fun r s6 ⟨u,hr,h6⟩=>?_
     subst hr
     refine thn h6 fun _ s7 ⟨x,H7,I7,r7,y7,st7,fr7⟩=>?_
     have I7':=I7.pinned (stat fr7) (T.obj _ _ st7)
     have hg1:=hbg _ s7 (capt fr σ) H7 x u _ I7' r7 (step x H7 y7)
     rw[eP,eW,eA,eE,eX] at hg1
     refine thn hg1 fun _ s8 ⟨σ8,H8,I8,ext8,q8⟩=>?_
     have ht1:=hbt _ s8 σ8 H8 _ I8 q8
     rw[eP,eW,eA,eE,eX] at ht1
     refine thn ht1 fun ok s9 ⟨H9,I9,q9⟩=>?_
     have weak:∀{H':Hp}{s':Shared},Inv X' ([]++L7 fp s7.heap) σ8 H' s'->Inv X' [] (capt fr σ) H' s'/\tn (i+1) s'.heap/\∀b∈fp,H' b=none:=fun {H' s'} I'=>by
       refine⟨I'.unpinned.weak (by rw[I'.len];rw[I0.len]) ext8,T.keep _ _ _ st7 fun b hb o e=>(I'.pin (b,o) (zB _ (zB _ (D4 hb e)))).1,fun b hb=>?_⟩
       obtain⟨o,e,d⟩:=T.obj _ _ st7 b hb
       exact(I'.pin (b,o) (zB _ (zB _ (D4 hb e)))).2.1
     cases ok with
     | false=>
       rw[if_neg nft] at q9
       obtain⟨ys',m',hm',w'⟩:=q9
       obtain⟨a1,a2,a3⟩:=weak I9
       exact⟨m',hm',i+1,ys',H9,a1,a2,a3,w'⟩
     | true=>
       rw[if_pos rfl] at q9
       have he1:=hbk _ s9 σ8 H9 _ I9 q9
       rw[eP,eW,eA,eE,eX] at he1
       refine thn he1 fun yk s10 ⟨kv,H10,I10,r10,q10⟩=>?_
       have he2:=hbv _ s10 σ8 H10 _ I10 q10
       rw[eP,eW,eA,eE,eX] at he2
       refine thn he2 fun yv s11 ⟨vv,H11,I11,r11,ys',k,ek,hD11,hsz,m',hm',w'⟩=>?_
       subst ek
       have hset:=rP (A:=X'.A) (E:=X'.xe) (Q:=fun _ s'=>∃m'',m'' < n/\∃i ys H',Inv X' [] (capt fr σ) H' s'/\tn i s'.heap/\(∀b∈fp,H' b=none)/\W i m'' ys H') I11 hD11 hsz r10 r11 fun s' I'=>by
         obtain⟨a1,a2,a3⟩:=weak I'
         exact⟨m',hm',i+1,_,_,a1,a2,a3,w'⟩
       rw[eP,eW,eA,eX] at hset
       exact hset
 refine codeAny_compStart_dict (loop _ rfl) (T.self _ 0 _ _ _ ?_ (loop _ rfl))
 exact T.keep _ _ _ st2 (fun b hb o e=>keep1 b o (by rw[← hh3];exact zW _ e))
theorem gJ {kx vx iter tg:Expr}{ifs:List Expr}{pos:Pos}{wi:TI}{g:TG}{tt:TT}{tk tv:TE}(hc:X.calm=true) (hu:X.A.units+1 < cLine) (S:CSc X scope NC fr) (hi:PI X tg iter wi)
   (hb:∀(C:Addr) (s:Shared) (H:Hp) (ex:List Addr) (pn:List (Addr×Obj)),PG (BA X scope NC C s H ex pn) tg g/\PTs (BA X scope NC C s H ex pn) ifs tt/\PE (BA X scope NC C s H ex pn) kx tk/\PE (BA X scope NC C s H ex pn) vx tv)
   (hs:∀x,foldedSetIterable iter X.env x=pure x:=by intro _;rfl):PE X (.DictComp kx vx [⟨tg,iter,ifs,0⟩] scope pos) (XH fr wi g tt tk tv):=by
 intro pins s σ H Q I h
 rw[arm_eval_DictComp]
 refine bM (use:=none) (Q:=Q) hc S hi hb I hu h (fun D C H' s' m oC I' hn q back _ h' sb=>?_) hs
 exact⟨.ref D,H',back pins σ H' s' h' I' sb,rfl,q⟩
end
end L2
namespace L2
open PySem PySem.Spec PyProof.Rows PySem.W
def gK (K:Frg):List V->Hp->VK->Prop:=fun xs H Q=>∃(p:Addr) (es:List (Addr×Str×List V)),xs=[.ref p]/\(SqL K H p (es.map fun e=>V.ref e.1)∨SqT K H p (es.map fun e=>V.ref e.1))/\(∀e∈es,SqT K H e.1 (.str e.2.1::e.2.2))/\(es.map fun e=>e.2.1).Nodup/\es.length < 64 /\
 ∀(es':List (Addr×Str×List V)) (q:Addr),es'.Perm es->es'.Pairwise (fun x y=>x.2.1.cps.toList < y.2.1.cps.toList)->H q=none->Q (.ref q) (upd H q (.lst (es'.map fun e=>V.ref e.1)))
def gL:List V->Hp->VK->Prop:=fun xs H Q=>∃(p:Addr) (kvs:List (Key×V)) (ss:List Str),xs=[.ref p]/\Rd H p (.dK kvs)/\kvs.map (·.1)=ss.map a0K/\ss.length < 64 /\
 ∀(ss':List Str) (q:Addr),ss'.Perm ss->sortedS ss'=true->H q=none->Q (.ref q) (upd H q (.lst (ss'.map V.str)))
def LI (K:Frg):List V->Hp->VK->Prop:=fun xs H Q=>fI K xs H Q∨gK K xs H Q∨gL xs H Q
section
variable {X:Cx}
theorem R5:∀{es:List (Addr×Str×List V)}{its:List Value},Vals (es.map fun e=>V.ref e.1) its->its=es.map fun e=>a0X e.1
 | [],_,.nil=>rfl
 | _::_,_,.cons r t=>by rw[R5 t];cases r;rfl
theorem R6:∀{es:List (Addr×Str×List V)},Vals (es.map fun e=>V.ref e.1) (es.map fun e=>a0X e.1)
 | []=>.nil
 | _::_=>.cons rfl R6
theorem XJ:B2 X (.builtin "sorted") (gK X.K):=by
 intro pins s σ H xs us Q I r h
 obtain⟨p,es,rfl,hp,ht,nd,h64,q⟩:=h
 obtain⟨u,rfl,ru⟩:=DN r
 cases ru
 obtain⟨its,rv,pl⟩:∃its:List Value,Vals (es.map fun e=>V.ref e.1) its/\(s.heap.IsList p its.toArray∨s.heap.IsTuple p its.toArray):=by
   rcases hp with hp | hp
   · obtain⟨its,rv,pl,_⟩:=I.list hp
     exact⟨its,rv,.inl pl.isList⟩
   · obtain⟨its,rv,pl,_⟩:=I.tuple hp
     exact⟨its,rv,.inr pl⟩
 have ei:=R5 rv
 subst ei
 have tn:TupsN s.heap (es.map fun e=>a0X e.1) (es.map fun e=>e.2.1):=by
   refine⟨by simp,fun i v nm e1 e2=>?_⟩
   rw[zF] at e1 e2
   cases he:es[i]? with
   | none=>rw[he] at e1;cases e1
   | some e=>
     rw[he] at e1 e2
     cases e1
     cases e2
     obtain⟨js,rj,⟨o,ho,hc,n,hd⟩,_⟩:=I.tuple (ht e (yN he))
     cases rj with
     | cons r0 _=>
       obtain⟨t,rfl⟩:=r0
       exact⟨e.1,o,_,n,t,rfl,ho,hc,hd,by simp⟩
 refine UY pl tn nd (by simpa using h64) fun pm h1 h2=>?_
 simp only[zX] at h1 h2
 obtain⟨e,he⟩:=sortedAll_at s.heap (es.map fun e=>a0X e.1) (pm.map fun i=>(es.map fun e=>a0X e.1).getD i a1J).toArray
 have hn:H (s.heap.objs.size+1)=none:=I.hok.fresh (a8V _)
 obtain⟨es',he'⟩:∃es':List (Addr×Str×List V),es'=pm.filterMap fun i=>es[i]?:=⟨_,rfl⟩
 have hin:∀i∈pm,i < es.length:=fun i hi=>List.mem_range.mp (h1.mem_iff.mp hi)
 have emap:∀(l:List Nat),(∀i∈l,i < es.length)->(l.filterMap fun i=>es[i]?)=l.attach.map fun i=>es.getD i.1 (0, "", []):=fun l=>by
   intro hl
   induction l with
   | nil=>rfl
   | cons a l ih=>
     have ha:=hl a (by simp)
     rw[a4J,zV ha]
     simp only[List.attach_cons,zI,zD]
     rw[ih fun i hi=>hl i (yV _ hi)]
     simp[yU,zV ha]
 have emap':es'=pm.map fun i=>es.getD i (0, "", []):=by
   rw[he',emap pm hin]
   simp
 have perm:es'.Perm es:=by
   rw[he']
   refine(h1.filterMap _).trans ?_
   rw[show((a1V es.length).filterMap fun i=>es[i]?)=es from ?_]
   apply b9X
   intro i
   have:((a1V es.length).filterMap fun i=>es[i]?)=(a1V es.length).map fun i=>es.getD i (0, "", []):=by
     rw[emap _ fun i hi=>List.mem_range.mp hi]
     simp
   rw[this,zF]
   by_cases hi:i < es.length
   · rw[yA hi]
     simp[hi]
   · rw[a7K (by simp;omega),a7K (by omega)]
     rfl
 have outs:(pm.map fun i=>(es.map fun e=>a0X e.1).getD i a1J)=es'.map fun e=>a0X e.1:=by
   rw[emap',zD]
   apply yM
   intro i hi
   have hi:=hin i hi
   simp[yU,zF,zV hi]
 have lenp:pm.length=es.length:=by have:=h1.length_eq;simpa using this
 have srt:es'.Pairwise (fun x y=>x.2.1.cps.toList < y.2.1.cps.toList):=by
   rw[emap',a4Z,List.pairwise_iff_getElem]
   intro i j hi hj hij
   have:=h2 i j hij (by omega)
   have g:∀k (hk:k < pm.length),(es.map fun e=>e.2.1).getD (pm.getD k 0) (a0Q "")=(es.getD pm[k] (0, "", [])).2.1:=fun k hk=>by
     have hk':=hin pm[k] (b1V hk)
     rw[yU (l:=pm),zV hk]
     simp[yU,zF,zV hk']
   rw[g i hi,g j hj] at this
   exact this
 rw[outs] at he ⊢
 refine⟨.ref (s.heap.objs.size+1),_,I.laid (t':=s.toks) (o:=.lst (es'.map fun e=>V.ref e.1)) (fun b o eb=>sortedAll_old eb) (a8V _) ?_,rfl,q es' _ perm srt hn⟩
 refine⟨by rw[zX,perm.length_eq];exact zN (xR h64) (by decide),es'.map fun e=>a0X e.1,e,R6,?_⟩
 have he':=he
 simpa [seqObj] using he'
theorem XN (hc:X.calm=true):B2 X (.builtin "sorted") gL:=by
 intro pins s σ H xs us Q I r h
 obtain⟨p,kvs,ss,rfl,hp,hk,h64,q⟩:=h
 obtain⟨u,rfl,ru⟩:=DN r
 cases ru
 obtain⟨z,hd,vs,rel,dd⟩:=GV I.hok hp
 have hk':vs.map (·.1)=ss.map a0K:=by
   rw[← hk]
   clear hk dd z hp q
   unfold KV at rel
   induction rel with
   | nil=>rfl
   | cons h t ih=>simp[h.1,ih]
 refine UZ (I.ok.hd hc) hd dd hk' h64 fun h1 h' tk out e ss' k1 k2 ho hS hperm hsort=>?_
 have I1:Inv X pins σ H { s with heap:=h1,toks:=tk }:=I.kept k1
 have hn:H h1.objs.size=none:=I1.hok.fresh (zR _)
 refine⟨.ref h1.objs.size,_,I1.laid (t':=tk) (o:=.lst (ss'.map V.str)) (h':=h') k2 (zR _) ?_,rfl,q ss' _ hperm hsort hn⟩
 refine⟨by rw[zX,hperm.length_eq];exact zN (xR h64) (by decide),out,e,fH hS,?_⟩
 simpa [seqObj] using ho
theorem OF (hc:X.calm=true):B2 X (.builtin "sorted") (LI X.K):=by
 intro pins s σ H xs us Q I r h
 rcases h with h | h | h
 · exact X2 pins s σ H xs us Q I r h
 · exact XJ pins s σ H xs us Q I r h
 · exact XN hc pins s σ H xs us Q I r h
end
end L2
namespace L2
open PySem PySem.Spec PyProof.Rows
theorem OG:typeLookup (.type "list") "keys"=pure none:=am_miss_of_fast (by decide +kernel)
theorem bN {prog:Program}{w:World}{A:Around}{E:Value->Shared->Prop}{s:Shared}{a:Addr}{o:Obj}{xs:Array Value}{k:Nat}{Q:Option Value->Shared->Prop}
   (hx:s.heap.get? a=some o) (hc:o.cls = .type "list") (hdat:o.data = .seq xs k) (hd:o.dict=none) (hA:A.handled=none)
   (h:∀h' tk,(∀b ob,s.heap.get? b=some ob->h'.get? b=some ob)->Q none { s with heap:=h',toks:=tk }):wpAny (model prog w) A (getAttr? (.ref a) "keys") Q E s:=by
 obtain⟨c,dct,dat,sl⟩:=o
 simp only at hc hdat hd
 subst hc hdat hd
 obtain⟨hp,g,d,tk,os⟩:=s
 have hT:∀tk',(⟨hp,g,d,tk',os⟩:Shared).TypeIs (.ref a) "list" := fun _=>⟨_,hx,rfl⟩
 have f1:=sub_AttributeError
 have f3:=F.slot_list_getattribute.lookup
 have f4:=F.slot_list_getattribute.bind (.ref a)
 have f5:=am_list_getattr_none
 unfold getAttr? getAttrBy? getAttrBy
 repeat (any_goals (first | assumption | exact hT _ | ((with_reducible show wpAny _ _ (call (b5Q "list.__getattribute__") _ _) _ _ _);refine call_meets F.slot_list_getattribute (hT _) am_entry_list_getattribute (F.args_list_getattribute_2 _ _) (meets_getattribute_miss_list a xs k sl "keys" _ OG (by decide +kernel) (by decide +kernel)) ⟨hx,hA,fun h' tk' e hx'=>?_⟩) | wp_step))
 obtain⟨t',u',he⟩:=hx'.there
 show wpAny _ _ (getattributeRaised _ _ _ _ _ _ _) _ _ _;unfold getattributeRaised
 repeat (any_goals (first | assumption | wp_step))
 exact h _ _ hx'.keeps
theorem GY:entryFor table "dict.update.loop"=some Builtin.«dict.update.loop»:=entryFor_of_tree (by kernel_rfl)
theorem CG:plainId "dict.update.loop"=true:=by decide +kernel
section
variable {prog:Program}{w:World}{A:Around}{R:Result->Shared->Prop}
def SO (h:Heap) (its:Array Value) (prs:List (Key×Value)):Prop:=its.size=prs.length/\∀(j:Nat) (v:Value) (kv:Key×Value),its[j]?=some v->prs[j]?=some kv->∃(a:Addr) (o:Obj) (key:Value) (n:Nat),v=a0X a/\h.get? a=some o/\o.cls = .type "tuple" /\ o.data = .seq #[key,kv.2] n/\K6 kv.1 key=true
theorem bO {D I ax:Addr}{its:Array Value}{prs:List (Key×Value)}(hh:A.handled=none) (hDI:D≠I) (hDx:D≠ax) (hxI:ax≠I):∀(k i:Nat) (kvs:List (Key×Value)) (s:Shared),its.size - i=k->i<=its.size ->
   s.heap.IsListIter I ax i->s.heap.IsList ax its->s.heap.DictOf (AH prog w) D kvs->kvs.length+k<=sizeLine->SO s.heap its prs ->
   (∀h' tk,(∀b o,b≠D->b≠I->s.heap.get? b=some o->h'.get? b=some o)->h'.DictOf (AH prog w) D (merged kvs (prs.drop i))->R (.ok (.ret .none)) { s with heap:=h',toks:=tk }) ->
   codeAny (model prog w) A (.builtin "dict.update.loop" ⟨[.ref D,.ref I,rawInt i,.none],[]⟩) R s:=by
 have W:=Walks.list (prog:=prog) (w:=w) (A:=A.in1) hh I ax hxI its
 intro k
 induction k with
 | zero=>
   intro i kvs s hk hi st sl hd hz hp hR
   have e:i=its.size:=by omega
   subst e
   refine codeAny_builtin GY ?_
   rw[Around.under_plainId CG _]
   show wpAny _ A.in1 (pyNext (.ref I) >>= _) _ _ s
   refine zZ (W.done s _ _ ⟨st,sl⟩ fun h1 tk1 hk1=>?_)
   show wpAny _ A.in1 (Builtin.Dict.addKeywords D [] >>= _) _ _ _
   refine zZ (zY (zY (hR h1 tk1 (fun b o _ hb e=>hk1 b o (by simpa using hb) e) ?_)))
   rw[hp.1,List.drop_length]
   exact hd.at fun o e=>hk1 D o (by simpa using hDI) e
 | succ k ih=>
   intro i kvs s hk hi st sl hd hz hp hR
   refine codeAny_builtin GY ?_
   rw[Around.under_plainId CG _]
   show wpAny _ A.in1 (pyNext (.ref I) >>= _) _ _ s
   refine zZ (W.item i s _ _ (by omega) ⟨st,sl⟩ fun v h1 tk1 hPv hst1 hk1=>?_)
   have hip:i < prs.length:=by rw[← hp.1];omega
   obtain⟨a,o,key,n,rfl,ho,hc,hdt,hkey⟩:=hp.2 i v prs[i] hPv (zV hip)
   have haI:a≠I:=fun e=>by
     obtain⟨o',ho',hc',_⟩:=st
     rw[e,ho'] at ho
     cases ho
     rw[hc'] at hc
     exact absurd hc (by decide)
   have ho1:h1.get? a=some o:=hk1 a o (by simpa using haI) ho
   have hd1:h1.DictOf (AH prog w) D kvs:=hd.at fun o e=>hk1 D o (by simpa using hDI) e
   refine zZ (wpAny_holding ?_)
   refine zZ (wpAny_tryCatch ?_)
   unfold Builtin.Dict.pairItems
   refine zZ (wpAny_typeOf (T:= "tuple") ⟨o,ho1,hc⟩ ?_)
   rw[if_pos (by decide)]
   refine zZ (wpAny_seqItems ho1 hdt (zY ?_))
   dsimp only[Option.getD_some]
   refine wpAny_holding (wpAny_dictSet_pairs (hsz:=by omega) (show(AH prog w).is prs[i].1 key=true from hkey) hd1 fun h2 hd2 hs2=>?_)
   have keep2:∀b o,b≠D->h1.get? b=some o->h2.get? b=some o:=fun b o hb e=>(hs2.2 b hb).trans e
   refine zY ⟨plainId_quiet CG _,?_⟩
   exact ih (i+1) (stored kvs prs[i].1 prs[i].2) _ (by omega) (by omega) (hst1.1.at fun o e=>keep2 I o (a8J hDI) e) (hst1.2.at fun o e=>keep2 ax o (a8J hDx) e) hd2
     (by have:=stored_length_le kvs prs[i].1 prs[i].2;omega)
     ⟨hp.1,fun j v kv e1 e2=>by
       obtain⟨a,o,key,n,h1',h2',h3',h4',h5'⟩:=hp.2 j v kv e1 e2
       refine⟨a,o,key,n,h1',keep2 a o (fun e=>?_) (hk1 a o (fun e=>?_) h2'),h3',h4',h5'⟩
       · obtain⟨o',_,_,hg,hx,_⟩:=hd
         rw[e,hg] at h2'
         cases h2'
         rw[hx.1] at h3'
         exact absurd h3' (by decide)
       · obtain⟨o',ho',hc',_⟩:=st
         have e:a=I:=by simpa using e
         rw[e,ho'] at h2'
         cases h2'
         rw[hc'] at h3'
         exact absurd h3' (by decide)⟩
     (fun h' tk hk' hd'=>hR h' tk (fun b o h1' h2' e=>hk' b o h1' h2' (keep2 b o h1' (hk1 b o (by simpa using h2') e))) (by
       rw[List.drop_eq_getElem_cons hip]
       exact hd'))
theorem OH {E:Value->Shared->Prop}{s:Shared}{l:Addr}{o:Obj}{its:Array Value}{n:Nat}{prs:List (Key×Value)}{Q:Value->Shared->Prop}(hh:A.handled=none) (ho:s.heap.get? l=some o) (hc:o.cls = .type "list") (hdt:o.data = .seq its n) (hdd:o.dict=none) (hp:SO s.heap its prs) (hsz:prs.length<=sizeLine)
   (h:∀h' tk,(∀b o,s.heap.get? b=some o->h'.get? b=some o)->h'.DictOf (AH prog w) s.heap.objs.size (merged [] prs)->Q (.ref s.heap.objs.size) { s with heap:=h',toks:=tk }) :
   wpAny (model prog w) A (call (.type "dict") [.ref l]) Q E s:=by
 refine callType_codes (Q₁:=fun obj s₁=>obj = .ref s.heap.objs.size/\s₁={ s with heap:=s.heap.push { cls:=.type "dict", data:=.dict #[] } }) F.kt_called_dict (F.kt_typeCall_dict_1 _) F.entry_dict_init (kt_code_dict_new _ ⟨rfl,rfl⟩) ?_
 rintro obj s₁ ⟨rfl,rfl⟩
 have hnew:(s.heap.push { cls:=.type "dict", data:=.dict #[] }).DictOf (AH prog w) s.heap.objs.size []:=Heap.DictOf.new s.heap
 have hlt:l < s.heap.objs.size:=zM ho
 have ho':(s.heap.push { cls:=.type "dict", data:=.dict #[] }).get? l=some o:=zW _ ho
 refine⟨hnew.typeIs,F.args_dict_init_2 _ _,?_⟩
 unfold Builtin.«dict.__init__»;refine zZ ?_
 unfold Builtin.Dict.selfAndRest;refine zZ (wpAny_notOrdered_dict hnew.typeIs ?_)
 show wpAny _ _ (pure (s.heap.objs.size,[a0X l])) _ _ _
 refine zY ?_
 show wpAny _ _ (Builtin.Dict.updateFrom "dict.__init__" s.heap.objs.size (.ref l) [] .none) _ _ _
 unfold Builtin.Dict.updateFrom
 refine zZ (wpAny_typeOf (T:= "list") ⟨o,ho',hc⟩ ?_)
 rw[if_pos (by decide)]
 refine zZ (bN ho' hc hdt hdd hh fun h1 tk1 hk1=>?_)
 dsimp only[Option.isNone_none]
 rw[if_pos rfl]
 have ho1:h1.get? l=some o:=hk1 _ _ ho'
 have hd1:h1.DictOf (AH prog w) s.heap.objs.size []:=hnew.at fun o e=>hk1 _ _ e
 have hl1:h1.IsList l its:=⟨o,ho1,hc,n,hdt⟩
 have hD1:s.heap.objs.size < h1.objs.size:=by
   obtain⟨_,_,_,hg,_⟩:=hd1
   exact zM hg
 have hl1':l < h1.objs.size:=zM ho1
 refine zZ (wpAny_rule (zZ (wpAny_pyIter_list (s:={ s with heap:=h1,toks:=tk1 }) hl1 ?_)))
 refine zY ⟨plainId_quiet CG _,?_⟩
 have kp:∀b o,h1.get? b=some o->(h1.push { cls:=.type "list_iterator", data:=.fields #[.ref l,.int 0 0] }).get? b=some o:=fun b o e=>zW _ e
 refine bO (A:=A.in1) (R:=wants (fun r s₂=>r=a1J/\Q (a0X s.heap.objs.size) s₂) E) (I:=h1.objs.size) (ax:=l) (its:=its) (prs:=prs) hh (zC hD1) (a8J (zC hlt)) (zC hl1') its.size 0 [] { s with heap:=h1.push { cls:=.type "list_iterator", data:=.fields #[.ref l,.int 0 0] },toks:=tk1 } (by omega) (xT _) ⟨_,yZ _ rfl,rfl,rfl⟩ (hl1.push _) (hd1.push _) (by rw[hp.1];simpa using hsz)
   ⟨hp.1,fun j v kv e1 e2=>let ⟨a,o,key,n,q1,q2,q3,q4,q5⟩:=hp.2 j v kv e1 e2;⟨a,o,key,n,q1,kp _ _ (hk1 _ _ (zW _ q2)),q3,q4,q5⟩⟩ fun h' tk hk' hd'=>?_
 have hkeep:∀b o,s.heap.get? b=some o->h'.get? b=some o:=fun b o e=>by
   have hb:b < s.heap.objs.size:=zM e
   exact hk' b o (zC hb) (zC (xQ hb hD1)) (kp _ _ (hk1 _ _ (zW _ e)))
 exact⟨rfl,h h' tk hkeep hd'⟩
end
def SQ (K:Frg):List V->Hp->VK->Prop:=fun xs H Q=>∃(p:Addr) (es:List (Addr×Key×V)),xs=[.ref p]/\SqL K H p (es.map fun e=>V.ref e.1)/\(∀e∈es,SqT K H e.1 [kV e.2.1,e.2.2])/\es.length<=sizeLine /\
 ∀q:Addr,H q=none->Q (.ref q) (upd H q (.dK (EI [] (es.map (·.2)))))
theorem V0 {X:Cx}{pins:List (Addr×Obj)}{σ:St}{H:Hp}{s:Shared}(I:Inv X pins σ H s):∀{es:List (Addr×Key×V)}{its:List Value},Vals (es.map fun e=>V.ref e.1) its->(∀e∈es,SqT X.K H e.1 [kV e.2.1,e.2.2]) ->
   ∃prs:List (Key×Value),SO s.heap its.toArray prs/\KV (es.map (·.2)) prs
 | [],_,.nil,_=>⟨[],⟨rfl,fun j v kv e1 e2=>by simp at e2⟩,.nil⟩
 | e::es,_,.cons r t,h=>by
   obtain⟨prs,hp,hk⟩:=V0 I t fun e he=>h e (yV _ he)
   obtain⟨js,rj,⟨o,ho,hc,n,hd⟩,_⟩:=I.tuple (h e (by simp))
   cases rj with
   | cons r0 t0=>cases t0 with
     | cons r1 t1=>
       cases t1
       rename_i key val
       cases r
       refine⟨(e.2.1,val)::prs,⟨by have:=hp.1;simpa using this,fun j v kv e1 e2=>?_⟩,.cons ⟨rfl,r1⟩ hk⟩
       cases j with
       | zero=>
         simp at e1 e2
         subst e1 e2
         exact⟨e.1,o,key,n,rfl,ho,hc,hd,HP (P:=X.prog) (w:=X.w) r0⟩
       | succ j=>exact hp.2 j v kv (by simpa using e1) (by simpa using e2)
theorem V1 {X:Cx}(hc:X.calm=true):B2 X (.type "dict") (SQ X.K):=by
 intro pins s σ H xs us Q I r h
 obtain⟨p,es,rfl,hp,ht,hz,q⟩:=h
 obtain⟨u,rfl,ru⟩:=DN r
 cases ru
 obtain⟨its,rv,⟨o,n,ho,hcl,hdd,hdt⟩,_⟩:=I.list hp
 obtain⟨prs,hpr,hk⟩:=V0 I rv ht
 have hlen:prs.length=es.length:=by
   have:=Paired.length hk
   simpa using this.symm
 refine OH (I.ok.hd hc) ho hcl hdt hdd hpr (by rw[hlen];exact hz) fun h' tk keep hd=>?_
 have hn:H s.heap.objs.size=none:=I.hok.fresh (zR _)
 have hl:(EI [] (es.map (·.2))).length<=sizeLine:=by
   have:=FG (es.map (·.2)) []
   simp only[b0K,zX] at this
   omega
 refine⟨.ref s.heap.objs.size,_,I.laid (t':=tk) (o:=.dK (EI [] (es.map (·.2)))) keep (zR _) ?_,rfl,q _ hn⟩
 exact L9 hl (beq_eq_false_iff_ne.mpr (a8J (zC I.big))) (hk.merge .nil) hd
end L2
namespace DL
open PySem PySem.Spec L2
def AS (ts:List (Str×PyData)):List (PyData×PyData):=ts.map fun t=>(a1X t.1,t.2)
def V2 (ts:List (Str×PyData)) (k:Str) (d:PyData):List (Str×PyData):=
 if (ts.any fun t=>decide (t.1=k))=true then ts.map (fun t=>if t.1=k then (t.1,d) else t) else ts++[(k,d)]
def R7 (ts:List (Str×PyData)) (k:Str):List (Str×PyData):=ts.filter fun t=>decide (t.1≠k)
def AU:List (Str×PyData)->Str->Option PyData
 | [],_=>none
 | t::r,k=>if t.1=k then some t.2 else AU r k
section
variable {K:Frg}{H:Hp}{W:Addr->Prop}
theorem BM {t:Str×PyData}{ts:List (Str×PyData)}{ks:List (Key×V)}:DKV K H W (AS (t::ts)) ks↔∃v r,ks=(a0K t.1,v)::r/\DV K H W t.2 v/\DKV K H W (AS ts) r:=by
 unfold AS
 rw[zI]
 constructor
 · intro h
   unfold DKV at h
   obtain⟨k',v,r,e,e2,h1,h2⟩:=h
   cases k' with
   | inl i=>cases e2
   | inr x=>
     have e3:t.1=x:=by simpa [e9] using e2
     subst e3
     exact⟨v,r,e,h1,h2⟩
 · rintro⟨v,r,e,h1,h2⟩
   unfold DKV
   exact⟨a0K t.1,v,r,e,rfl,h1,h2⟩
theorem DK {ks:List (Key×V)}:DKV K H W (AS []) ks↔ks=[]:=by unfold AS;simp only[a7J];unfold DKV;exact Iff.rfl
theorem OI:∀{ts:List (Str×PyData)}{ks:List (Key×V)},DKV K H W (AS ts) ks->ks.map (·.1)=(ts.map (·.1)).map a0K
 | [],ks,h=>by rw[DK.mp h];rfl
 | t::ts,ks,h=>by obtain⟨v,r,rfl,_,h2⟩:=BM.mp h;simp[OI h2]
theorem ZF {k:Str}:∀{ts:List (Str×PyData)}{ks:List (Key×V)},DKV K H W (AS ts) ks->(ks.any fun kv=>decide (kv.1=a0K k))=ts.any fun t=>decide (t.1=k)
 | [],ks,h=>by rw[DK.mp h];rfl
 | t::ts,ks,h=>by
   obtain⟨v,r,rfl,_,h2⟩:=BM.mp h
   rw[b2V,b2V,ZF h2]
   congr 1
   by_cases e:t.1=k
   · rw[decide_eq_true e,decide_eq_true (by rw[e])]
   · rw[decide_eq_false e,decide_eq_false fun q=>e (by injection q)]
theorem OJ {k:Str}{d:PyData}{v:V}(hd:DV K H W d v):∀{ts:List (Str×PyData)}{ks:List (Key×V)},DKV K H W (AS ts) ks ->
   DKV K H W (AS (ts.map fun t=>if t.1=k then (t.1,d) else t)) (ks.map fun kv=>if kv.1=a0K k then (kv.1,v) else kv)
 | [],ks,h=>by rw[DK.mp h];exact DK.mpr rfl
 | t::ts,ks,h=>by
   obtain⟨u,r,rfl,h1,h2⟩:=BM.mp h
   rw[zI,zI]
   by_cases e:t.1=k
   · rw[if_pos e,if_pos (by rw[e])]
     exact BM.mpr ⟨v,_,rfl,hd,OJ hd h2⟩
   · rw[if_neg e,if_neg fun q=>e (by injection q)]
     exact BM.mpr ⟨u,_,rfl,h1,OJ hd h2⟩
theorem V3 {k:Str}{d:PyData}{v:V}(hd:DV K H W d v):∀{ts:List (Str×PyData)}{ks:List (Key×V)},DKV K H W (AS ts) ks->DKV K H W (AS (ts++[(k,d)])) (ks++[(a0K k,v)])
 | [],ks,h=>by rw[DK.mp h];exact BM.mpr ⟨v,[],rfl,hd,DK.mpr rfl⟩
 | t::ts,ks,h=>by
   obtain⟨u,r,rfl,h1,h2⟩:=BM.mp h
   exact BM.mpr ⟨u,_,rfl,h1,V3 hd h2⟩
theorem ZG {k:Str}{d:PyData}{v:V}{ts:List (Str×PyData)}{ks:List (Key×V)}(h:DKV K H W (AS ts) ks) (hd:DV K H W d v):DKV K H W (AS (V2 ts k d)) (EH ks (a0K k) v):=by
 unfold V2 EH
 rw[ZF h]
 by_cases c:(ts.any fun t=>decide (t.1=k))=true
 · rw[if_pos c,if_pos c];exact OJ hd h
 · rw[if_neg c,if_neg c];exact V3 hd h
theorem OK {k:Str}:∀{ts:List (Str×PyData)}{ks:List (Key×V)},DKV K H W (AS ts) ks->DKV K H W (AS (R7 ts k)) (K8 ks (a0K k))
 | [],ks,h=>by rw[DK.mp h];exact DK.mpr rfl
 | t::ts,ks,h=>by
   obtain⟨u,r,rfl,h1,h2⟩:=BM.mp h
   have ih:=OK (k:=k) h2
   unfold R7 K8 at ih ⊢
   by_cases e:t.1=k
   · rw[a6W,a6W,if_neg (by simp[e]),if_neg (by simp[e])]
     exact ih
   · rw[a6W,a6W,if_pos (by simpa using e),if_pos (by simp;exact e)]
     exact BM.mpr ⟨u,_,rfl,h1,ih⟩
theorem FQ {k:Str}:∀{ts:List (Str×PyData)}{ks:List (Key×V)},DKV K H W (AS ts) ks->(∃d v,AU ts k=some d/\EX ks (a0K k)=some v/\DV K H W d v)∨(AU ts k=none/\EX ks (a0K k)=none)
 | [],ks,h=>by rw[DK.mp h];exact .inr ⟨rfl,rfl⟩
 | t::ts,ks,h=>by
   obtain⟨u,r,rfl,h1,h2⟩:=BM.mp h
   by_cases e:t.1=k
   · exact .inl ⟨t.2,u,by simp[AU,e],K9 (by rw[e]),h1⟩
   · have e':¬(a0K t.1:Key)=a0K k:=fun q=>e (by injection q)
     rcases FQ (k:=k) h2 with ⟨d,v,a1,a2,a3⟩ | ⟨a1,a2⟩
     · exact .inl ⟨d,v,by simp[AU,e,a1],by rw[HN (p:=(a0K t.1,u)) e'];exact a2,a3⟩
     · exact .inr ⟨by simp[AU,e,a1],by rw[HN (p:=(a0K t.1,u)) e'];exact a2⟩
theorem NB:∀{kvs:List (PyData×PyData)}{ks:List (Key×V)},DKV K H W kvs ks->ks.length=kvs.length
 | [],ks,h=>by unfold DKV at h;subst h;rfl
 | (k,d)::r,ks,h=>by unfold DKV at h;obtain⟨_,_,_,rfl,_,_,h2⟩:=h;simp[NB h2]
end
section
variable {K:Frg}{M:Own}{Q:DS->Own->Prop}{ρ:List (Option DS)}{H:Hp}{td ty tv:TE}{D:EndsD}
theorem CP (h:DE K td ρ M fun x M1=>DE K ty ρ M1 fun y M2=>∃(a:Addr) (ts:List (Str×PyData)) (k:Str) (d:PyData),x = .loc a/\y = .d (.str k)/\M2 a=some (.d (AS ts))/\AU ts k=some d/\Q (.d d) M2):DE K (nZ td ty) ρ M Q:=fun σ H QQ R kk=>
 h σ H _ R fun v H1 x M1 o1 s1 t1 h1=>h1 σ H1 _ (R.step o1 t1) fun u H2 y M2 o2 s2 t2 h2=>by
   obtain⟨a,ts,k,d,rfl,rfl,m,l,q⟩:=h2
   unfold SI at s1
   subst s1
   rw[B7 s2]
   obtain⟨ks,e1,e2⟩:=o2 a _ m
   rcases FQ (k:=k) e2 with ⟨d',w',a1,a2,a3⟩ | ⟨a1,a2⟩
   · rw[l] at a1
     cases a1
     exact⟨a,w',rfl,.inl ⟨ks,a0K k,.inl e1,rfl,a2.symm⟩,kk _ H2 (.d d) M2 o2 a3 (t1.trans t2) q⟩
   · rw[l] at a1;cases a1
theorem ZH (h:DE K ty ρ M fun y M1=>DE K td ρ M1 fun x M2=>∃(a:Addr) (ts:List (Str×PyData)) (k:Str),x = .loc a/\y = .d (.str k)/\M2 a=some (.d (AS ts))/\Q (.d (.bool (AU ts k).isSome)) M2):DE K (tT ty td) ρ M Q:=fun σ H QQ R kk=>
 h σ H _ R fun v H1 x M1 o1 s1 t1 h1=>h1 σ H1 _ (R.step o1 t1) fun u H2 y M2 o2 s2 t2 h2=>by
   obtain⟨a,ts,k,rfl,rfl,m,q⟩:=h2
   unfold SI at s2
   subst s2
   rw[B7 s1]
   obtain⟨ks,e1,e2⟩:=o2 a _ m
   refine⟨a,EX ks (a0K k),rfl,.inl ⟨ks,a0K k,.inl e1,rfl,rfl⟩,kk _ H2 _ M2 o2 ?_ (t1.trans t2) q⟩
   rcases FQ (k:=k) e2 with ⟨d',w',a1,a2,a3⟩ | ⟨a1,a2⟩
   · rw[a1,a2];exact AJ
   · rw[a1,a2];exact AJ
theorem CH (h:DE K tv ρ M fun z M1=>DE K td ρ M1 fun x M2=>DE K ty ρ M2 fun y M3=>∃(a:Addr) (ts:List (Str×PyData)) (k:Str) (d:PyData),z = .d d/\x = .loc a/\y = .d (.str k)/\M3 a=some (.d (AS ts))/\ts.length < sizeLine/\D.nx ρ (M3.put a (.d (AS (V2 ts k d))))):DSt K (o0 td ty tv) ρ M D:=fun σ H E R k1 k2 k3 k4=>
 h σ H _ R fun v H1 z M1 o1 s1 t1 h1=>h1 σ H1 _ (R.step o1 t1) fun u H2 x M2 o2 s2 t2 h2=>h2 σ H2 _ (R.step o2 (t1.trans t2)) fun yv H3 y M3 o3 s3 t3 h3=>by
   obtain⟨a,ts,k,d,rfl,rfl,rfl,m,hl,q⟩:=h3
   unfold SI at s2
   subst s2
   rw[B7 s3]
   obtain⟨ks,e1,e2⟩:=o3 a _ m
   have hd:DV K H3 M3.W d v:=DV.grow (t2.trans t3).grow s1
   obtain⟨o4,t4⟩:=EK o3 m (ZG (k:=k) e2 hd)
   have hlen:ks.length < sizeLine:=by rw[NB e2];unfold AS;rw[zX];exact hl
   have ta:=((t1.trans t2).trans t3).trans t4
   exact⟨a,_,rfl,.inl ⟨ks,a0K k,e1,rfl,hlen,rfl⟩,k1 ρ _ σ _ (R.step o4 ta) ta q⟩
theorem ZI (h:DE K td ρ M fun x M1=>DE K ty ρ M1 fun y M2=>∃(a:Addr) (ts:List (Str×PyData)) (k:Str),x = .loc a/\y = .d (.str k)/\M2 a=some (.d (AS ts))/\(AU ts k).isSome=true/\D.nx ρ (M2.put a (.d (AS (R7 ts k))))):DSt K (o8 td ty) ρ M D:=fun σ H E R k1 k2 k3 k4=>
 h σ H _ R fun v H1 x M1 o1 s1 t1 h1=>h1 σ H1 _ (R.step o1 t1) fun u H2 y M2 o2 s2 t2 h2=>by
   obtain⟨a,ts,k,rfl,rfl,m,l,q⟩:=h2
   unfold SI at s1
   subst s1
   rw[B7 s2]
   obtain⟨ks,e1,e2⟩:=o2 a _ m
   obtain⟨o4,t4⟩:=EK o2 m (OK (k:=k) e2)
   have ta:=(t1.trans t2).trans t4
   refine⟨a,ks,a0K k,rfl,e1,rfl,?_,k1 ρ _ σ _ (R.step o4 ta) ta q⟩
   rcases FQ (k:=k) e2 with ⟨d',w',a1,a2,a3⟩ | ⟨a1,a2⟩
   · rw[a2];rfl
   · rw[a1] at l;cases l
theorem ND (h:DE K td ρ M fun x M1=>∃(a:Addr) (ts0:List (Str×PyData)),x = .loc a/\M1 a=some (.d (AS ts0))/\DE K ty ρ M1 fun y M2=>∃(ts:List (Str×PyData)) (k:Str) (d:PyData),y = .d (.str k)/\M2 a=some (.d (AS ts))/\AU ts k=some d/\Q (.d d) (M2.put a (.d (AS (R7 ts k))))):DE K (dU td ty) ρ M Q:=fun σ H QQ R kk=>
 h σ H _ R fun v H1 x M1 o1 s1 t1 h1=>by
   obtain⟨a,ts0,rfl,m0,h1⟩:=h1
   unfold SI at s1
   subst s1
   obtain⟨ks0,e0,_⟩:=o1 a _ m0
   refine⟨a,rfl,.inl ⟨ks0,.inl e0⟩,h1 σ H1 _ (R.step o1 t1) fun u H2 y M2 o2 s2 t2 h2=>?_⟩
   obtain⟨ts,k,d,rfl,m,l,q⟩:=h2
   rw[B7 s2]
   obtain⟨ks,e1,e2⟩:=o2 a _ m
   rcases FQ (k:=k) e2 with ⟨d',w',a1,a2,a3⟩ | ⟨a1,a2⟩
   · rw[l] at a1
     cases a1
     obtain⟨o4,t4⟩:=EK o2 m (OK (k:=k) e2)
     exact⟨ks,a0K k,w',e1,rfl,a2,kk _ _ (.d d) _ o4 (DV.grow t4.grow a3) ((t1.trans t2).trans t4) q⟩
   · rw[l] at a1;cases a1
theorem V4 {a:Addr}{ts:List (Str×PyData)}(m:M a=some (.d (AS ts))) (h64:ts.length < 64) (q:∀ss:List Str,ss.Perm (ts.map (·.1))->xG ss=true->Q (.d (.list (ss.map .str))) M):DR K (LI K) [.loc a] M Q:=fun H vs QQ oa s k=>by
 obtain⟨v,r,rfl,h1,h2⟩:=s
 cases h2
 unfold SI at h1
 subst h1
 obtain⟨ks,e1,e2⟩:=oa a _ m
 refine .inr (.inr ⟨a,ks,ts.map (·.1),rfl,.inl e1,OI e2,by rw[zX];exact h64,fun ss' p h3 h4 hp=>?_⟩)
 have g:Grow K M.W M.W H (upd H p (.lst (ss'.map V.str))):=AW _ hp
 refine k _ _ (.d (.list (ss'.map .str))) M (oa.new hp) ?_ ⟨g⟩ (q ss' h3 h4)
 unfold SI DV
 exact⟨p,_,rfl,.inl ⟨fun w=>w (oa.none hp),.inl AG⟩,MA⟩
def LJ (t:Str×List PyData):PyData:=.tuple (.str t.1::t.2)
theorem V5 {W:Addr->Prop}:∀{ts:List (Str×List PyData)}{vs:List V},DVs K H W (ts.map LJ) vs->∃es:List (Addr×Str×List V),vs=es.map (fun e=>V.ref e.1)/\es.map (fun e=>e.2.1)=ts.map (·.1)/\(∀e∈es,SqT K H e.1 (.str e.2.1::e.2.2)) /\
   es.length=ts.length/\∀(i:Nat) e t,es[i]?=some e->ts[i]?=some t->DV K H W (LJ t) (.ref e.1)/\e.2.1=t.1
 | [],vs,h=>by unfold DVs at h;subst h;exact⟨[],rfl,rfl,(fun e he=>by simp at he),rfl,fun i e t h1 h2=>by simp at h1⟩
 | t::ts,vs,h=>by
   rw[zI] at h
   unfold DVs at h
   obtain⟨v,r,rfl,h1,h2⟩:=h
   obtain⟨es,rfl,e2,e3,e4,e5⟩:=V5 h2
   have h1':=h1
   unfold LJ DV at h1'
   obtain⟨a,us,rfl,hw,hd⟩:=h1'
   unfold DVs at hd
   obtain⟨u,us',rfl,hu,hus⟩:=hd
   unfold DV at hu
   subst hu
   refine⟨(a,t.1,us')::es,rfl,by simp[e2],fun e he=>?_,by simp[e4],fun i e t' h3 h4=>?_⟩
   · rcases yX.mp he with rfl | he
     · exact hw.sq
     · exact e3 e he
   · cases i with
     | zero=>simp at h3 h4;subst h3 h4;exact⟨h1,rfl⟩
     | succ i=>exact e5 i e t' (by simpa using h3) (by simpa using h4)
theorem V6 {W:Addr->Prop}:∀{es:List (Addr×Str×List V)}{ts:List (Str×List PyData)},es.length=ts.length->(∀(i:Nat) e t,es[i]?=some e->ts[i]?=some t->DV K H W (LJ t) (.ref e.1))->DVs K H W (ts.map LJ) (es.map fun e=>V.ref e.1)
 | [],[],_,_=>by simp only[a7J];exact DVs.nil
 | [],_::_,h,_=>by simp at h
 | _::_,[],h,_=>by simp at h
 | e::es,t::ts,h,k=>by
   rw[zI,zI]
   exact DVs.cons (k 0 e t rfl rfl) (V6 (by simpa using h) fun i e t h1 h2=>k (i+1) e t (by simpa using h1) (by simpa using h2))
theorem XO {α β:Type}:∀{as as':List α},as'.Perm as->∀{bs:List β},as.length=bs.length->∃bs':List β,bs'.Perm bs/\(as'.zip bs').Perm (as.zip bs)/\as'.length=bs'.length:=by
 intro as as' h
 induction h with
 | nil=>intro bs hl;exact⟨bs,.refl _,.refl _,hl⟩
 | cons x _ ih=>
   intro bs hl
   cases bs with
   | nil=>simp at hl
   | cons b bs=>
     obtain⟨bs',h1,h2,h3⟩:=ih (bs:=bs) (by simpa using hl)
     exact⟨b::bs',h1.cons b,by rw[a7X,a7X];exact h2.cons _,by simp[h3]⟩
 | swap x y l=>
   intro bs hl
   match bs,hl with
   | b1::b2::bs,hl=>exact⟨b2::b1::bs,.swap _ _ _,by simp only[a7X];exact .swap _ _ _,by simpa using hl⟩
 | trans p1 p2 ih1 ih2=>
   intro bs hl
   obtain⟨b2,h1,h2,h3⟩:=ih2 hl
   obtain⟨b3,g1,g2,g3⟩:=ih1 h3
   exact⟨b3,g1.trans h1,g2.trans h2,g3⟩
theorem OL {a:Addr}{ts:List (Str×List PyData)}{vs:List V}{QQ:VK}(oa:OA K H M) (hl:SqL K H a vs∨SqT K H a vs) (hd:DVs K H M.W (ts.map LJ) vs) (nd:(ts.map (·.1)).Nodup) (h64:ts.length < 64)
   (k:∀(w:V) (H':Hp) (z:DS) (M':Own),OA K H' M'->SI K H' M' z w->Step K M M' H H'->(∃ts':List (Str×List PyData),ts'.Perm ts/\ts'.Pairwise (fun x y=>x.1.cps.toList < y.1.cps.toList)/\z = .d (.list (ts'.map LJ))/\M'=M)->QQ w H'):LI K [.ref a] H QQ:=by
 obtain⟨es,rfl,e2,e3,e4,e5⟩:=V5 hd
 refine .inr (.inl ⟨a,es,rfl,hl,e3,by rw[e2];exact nd,by rw[e4];exact h64,fun es' p hp hs hn=>?_⟩)
 obtain⟨ts',p1,p2,p3⟩:=XO hp e4
 have each:∀(i:Nat) e t,es'[i]?=some e->ts'[i]?=some t->DV K H M.W (LJ t) (.ref e.1)/\e.2.1=t.1:=fun i e t h1 h2=>by
   have hz:(e,t)∈es.zip ts:=p2.mem_iff.mp (yN (i:=i) (by rw[a7W];exact⟨h1,h2⟩))
   obtain⟨j,hj⟩:=List.getElem?_of_mem hz
   rw[a7W] at hj
   exact e5 j e t hj.1 hj.2
 have g:Grow K M.W M.W H (upd H p (.lst (es'.map fun e=>V.ref e.1))):=AW _ hn
 refine k _ _ (.d (.list (ts'.map LJ))) M (oa.new hn) ?_ ⟨g⟩ ⟨ts',p1,?_,rfl,rfl⟩
 · unfold SI DV
   exact⟨p,_,rfl,.inl ⟨fun w=>w (oa.none hn),.inl AG⟩,(V6 p3 fun i e t h1 h2=>(each i e t h1 h2).1).grow g⟩
 · rw[List.pairwise_iff_getElem] at hs ⊢
   intro i j hi hj hij
   have hi':i < es'.length:=by omega
   have hj':j < es'.length:=by omega
   have:=hs i j hi' hj' hij
   rw[(each i es'[i] ts'[i] (zV hi') (zV hi)).2,(each j es'[j] ts'[j] (zV hj') (zV hj)).2] at this
   exact this
theorem gM {ts:List (Str×List PyData)}(nd:(ts.map (·.1)).Nodup) (h64:ts.length < 64) (q:∀ts':List (Str×List PyData),ts'.Perm ts->ts'.Pairwise (fun x y=>x.1.cps.toList < y.1.cps.toList)->Q (.d (.list (ts'.map LJ))) M):DR K (LI K) [.d (.list (ts.map LJ))] M Q:=fun H vs QQ oa s k=>by
 obtain⟨v,r,rfl,h1,h2⟩:=s
 cases h2
 unfold SI DV at h1
 obtain⟨a,vs,rfl,hl,hd⟩:=h1
 exact OL oa (.inl hl.sq) hd nd h64 fun w H' z M' o si st ⟨ts',p1,p2,e1,e2⟩=>by subst e1 e2;exact k w H' _ _ o si st (q ts' p1 p2)
end
end DL
namespace DL
open PySem PySem.Spec L2
section
variable {X:Cx}{K:Frg}
theorem rQ (h:X.K=K) (hc:X.calm=true):B2 X (.builtin "sorted") (LI K):=h▸OF hc
theorem uL (h:X.K=K) (hc:X.calm=true):B2 X (.type "dict") (SQ K):=h▸V1 hc
end
section
variable {K:Frg}{M:Own}{ρ:List (Option DS)}{wi:TI}{g:TG}{H:Hp}
theorem gN {ts:List (Str×PyData)}{k:Str}{d:PyData}(h:k∉ts.map (·.1)):V2 ts k d=ts++[(k,d)]:=by
 unfold V2
 rw[if_neg]
 intro e
 obtain⟨t,ht,e⟩:=List.any_eq_true.mp e
 exact h (zL.mpr ⟨t,ht,by simpa using e⟩)
theorem V7 {fr:List (Option Nat)}{tt:TT}{tk tv:TE}{T:List Nat}{Q:DS->Own->Prop}(ho:QS g T) (hT:∀i∈T,∀j,fr[i]?≠some (some j))
   (h:DI K wi ρ M fun ds M1=>ds.length < sizeLine/\∃(c:PyData->Bool) (f:PyData->Str) (w:PyData->PyData),((ds.filter c).map f).Nodup /\
     (∀d∈ds,∀M',DG K g d (M9 fr ρ) M' fun ρ2 M2=>M2=M'/\DT K tt ρ2 M2 fun b M3=>M3=M'/\b=c d/\(c d=true->DE K tk ρ2 M3 fun y M4=>y = .d (.str (f d))/\M4=M'/\DE K tv ρ2 M4 fun z M5=>z = .d (w d)/\M5=M')) /\
     ∀p,M1 p=none->Q (.loc p) (M1.put p (.d (AS ((ds.filter c).map fun d=>(f d,w d)))))) :
   DE K (XH fr wi g tt tk tv) ρ M Q:=fun σ H QQ R k=>
 h σ H _ R fun J ds H1 M1 o1 t1 wd ⟨hsz,c,f,w,nd,he,hq⟩=>by
   intro A hA
   obtain⟨oA,sA⟩:=NY (kvs:=[]) (ks:=[]) o1 hA (by unfold DKV;rfl)
   have hM:=o1.none hA
   let acc:Nat->List (Str×PyData):=fun i=>((ds.take i).filter c).map fun d=>(f d,w d)
   refine⟨fun i m ys H2=>m=ds.length - i/\i<=ds.length/\H2 A=some (.dK ys)/\OA K H2 (M1.put A (.d (AS (acc i))))/\Step K M1 (M1.put A (.d (AS (acc i)))) H1 H2,⟨_,rfl,xT _,AG,oA,sA⟩,?_⟩
   rintro i m ys H2 ⟨rfl,hi,hys,oa,st⟩
   refine⟨hys,?_⟩
   by_cases hlt:i < ds.length
   · refine .inr ⟨wd.go i H2 _ hlt oa st,fun x H3 y=>?_⟩
     obtain⟨oa3,st3,d,e1,e2⟩:=wd.yld i H2 _ x H3 oa st hlt y
     have Rc:Rel K (M1.put A (.d (AS (acc i)))) (M9 fr ρ) (L2.capt fr σ) H3:=((R.step o1 t1).step oa3 (st.trans st3)).capt
     have ts:(ds.take (i+1)).filter c=(ds.take i).filter c++(if c d then [d] else []):=take_succ_filter c ds i d e1
     refine ho _ _ _ _ (he d (yN e1) _ (L2.capt fr σ) H3 x _ Rc e2 fun ρ3 M3 σ3 H4 R3 st4 ⟨eM,b3⟩ hext=>⟨fun i' v' hv'=>?_,?_⟩)
     · obtain⟨j,f1,f2⟩:=LE hv'
       rw[hext i' fun hm=>hT i' hm j f1]
       exact hv'
     · subst eM
       refine b3 σ3 H4 _ R3 fun b H5 M5 o5 st5 ⟨eM5,eb,h5⟩=>?_
       subst eM5
       have sx:=((st.trans st3).trans st4).trans st5
       cases hb:c d with
       | false=>
         rw[hb] at eb
         subst eb
         rw[if_neg nft]
         obtain⟨ks,q1,q2⟩:=o5 A _ zU
         have ea:acc (i+1)=acc i:=by show(((ds.take (i+1)).filter c).map _)=_;rw[ts,hb];simp[acc]
         refine⟨ks,ds.length - (i+1),by omega,rfl,hlt,q1,?_,?_⟩
         · rw[ea];exact o5
         · rw[ea];exact sx
       | true=>
         rw[hb] at eb
         subst eb
         rw[if_pos rfl]
         refine h5 hb σ3 H5 _ (R3.step o5 st5) fun y H6 z M6 o6 s6 st6 ⟨ez,eM6,h6⟩=>?_
         subst ez eM6
         refine h6 σ3 H6 _ ((R3.step o5 st5).step o6 st6) fun y2 H7 z2 M7 o7 s7 st7 ⟨ez2,eM7⟩=>?_
         subst ez2 eM7
         obtain⟨ks,q1,q2⟩:=o7 A _ zU
         obtain⟨w1,w2⟩:=EK o7 zU (ZG (k:=f d) q2 s7)
         have hnew:f d∉(acc i).map (·.1):=by
           intro hm
           have:((ds.take (i+1)).filter c).map f=(acc i).map (·.1)++[f d]:=by rw[ts,hb];simp[acc]
           have nd2:(((ds.take (i+1)).filter c).map f).Nodup:=by
             refine nd.sublist ?_
             exact((List.take_sublist _ _).filter _).map _
           rw[this,List.nodup_append] at nd2
           exact nd2.2.2 _ hm _ (by simp) rfl
         have ea:acc (i+1)=V2 (acc i) (f d) (w d):=by
           rw[gN hnew]
           show(((ds.take (i+1)).filter c).map _)=_
           rw[ts,hb]
           simp[acc]
         have hlen:ks.length < sizeLine:=by
           rw[NB q2]
           unfold AS
           rw[zX]
           refine zQ ?_ hsz
           show(((ds.take i).filter c).map _).length<=_
           rw[zX]
           exact zN (yJ _ _) (by rw[a2V];omega)
         rw[yI] at w1 w2
         refine⟨ks,a0K (f d),B7 s6,q1,hlen,ds.length - (i+1),by omega,rfl,hlt,AG,?_,?_⟩
         · rw[ea];exact w1
         · rw[ea];exact((sx.trans st6).trans st7).trans w2
   · have e:i=ds.length:=by omega
     subst e
     refine .inl ⟨wd.stop H2 _ oa st,k _ H2 (.loc A) _ oa rfl (t1.trans st) ?_⟩
     have:=hq A hM
     have ea:acc ds.length=(ds.filter c).map fun d=>(f d,w d):=by show(((ds.take ds.length).filter c).map _)=_;rw[a3W]
     rw[ea]
     exact this
def ZJ (t:Str×PyData):PyData:=.tuple [.str t.1,t.2]
theorem R8 {W:Addr->Prop}:∀{ts:List (Str×PyData)}{vs:List V},DVs K H W (ts.map ZJ) vs->∃es:List (Addr×Key×V),vs=es.map (fun e=>V.ref e.1)/\(∀e∈es,SqT K H e.1 [kV e.2.1,e.2.2])/\DKV K H W (AS ts) (es.map (·.2))
 | [],vs,h=>by unfold DVs at h;subst h;exact⟨[],rfl,(fun e he=>by simp at he),DK.mpr rfl⟩
 | t::ts,vs,h=>by
   rw[zI] at h
   unfold DVs at h
   obtain⟨v,r,rfl,h1,h2⟩:=h
   obtain⟨es,rfl,e3,e4⟩:=R8 h2
   unfold ZJ DV at h1
   obtain⟨a,us,rfl,hw,hd⟩:=h1
   unfold DVs at hd
   obtain⟨u,us',rfl,hu,hus⟩:=hd
   unfold DVs at hus
   obtain⟨u2,us2,rfl,hu2,hus2⟩:=hus
   unfold DVs at hus2
   subst hus2
   unfold DV at hu
   subst hu
   refine⟨(a,a0K t.1,u2)::es,rfl,fun e he=>?_,BM.mpr ⟨u2,_,rfl,hu2,e4⟩⟩
   rcases yX.mp he with rfl | he
   · exact hw.sq
   · exact e3 e he
theorem gQ {D:EndsD}{i j:Nat}{ta:TA}(h:DA K ta ρ M fun xs M1=>∃x y,xs=[x,y]/\D.nx ((ρ.set i (some x)).set j (some y)) M1):DSt K (tE i j ta) ρ M D:=fun σ H E R k1 _ _ _=>
 h σ H _ R fun vs H1 xs M1 o1 s1 t1 h1=>by
   obtain⟨x,y,rfl,q⟩:=h1
   obtain⟨v,r,rfl,sx,s2⟩:=s1
   obtain⟨w,r',rfl,sy,s3⟩:=s2
   cases s3
   exact⟨v,w,rfl,k1 _ M1 _ H1 (((R.step o1 t1).set sx i).set sy j) t1 q⟩
end
end DL
namespace DL
open PySem PySem.Spec L2
inductive Deed where
 | put (x:Str) (p k:Int) | take (x:Str) | move (x:Str) (p:Int) | count (x:Str) (k:Int) | name (x y:Str) | split (x y:Str) (p k:Int) | join (x y:Str)
def Deed.d:Deed->PyData
 | .put x p k=>.tuple [.str (a0Q "put"),.str x,.int p,.int k]
 | .take x=>.tuple [.str (a0Q "take"),.str x]
 | .move x p=>.tuple [.str (a0Q "move"),.str x,.int p]
 | .count x k=>.tuple [.str (a0Q "count"),.str x,.int k]
 | .name x y=>.tuple [.str (a0Q "name"),.str x,.str y]
 | .split x y p k=>.tuple [.str (a0Q "split"),.str x,.str y,.int p,.int k]
 | .join x y=>.tuple [.str (a0Q "join"),.str x,.str y]
def Deed.names:Deed->List Str
 | .put x _ _=>[x] | .take x=>[x] | .move x _=>[x] | .count x _=>[x] | .name x y=>[x,y] | .split x y _ _=>[x,y] | .join x y=>[x,y]
def Deed.ok (D:Deed):Prop:=∀x∈D.names,AM x
def FR:List (Str×Str):=[("put", "npk"),("take", "n"),("move", "np"),("count", "nk"),("name", "nn"),("split", "nnpk"),("join", "nn")]
def OM:PyData->PyData | .str z=>aZ (FR.lookup z) | _=>.none
def V8 (z:Str):Bool:=z == "name" || z == "split" || z == "join"
def LK:PyData->PyData | .tuple (.str w::r)=>.tuple (r.take (if V8 w then 2 else 1)) | d=>d
theorem gR {w f:Str}(h:FR.lookup w=some f):(w = "put" /\ f = "npk")∨(w = "take" /\ f = "n")∨(w = "move" /\ f = "np")∨(w = "count" /\ f = "nk")∨(w = "name" /\ f = "nn")∨(w = "split" /\ f = "nnpk")∨(w = "join" /\ f = "nn"):=by
 unfold FR at h
 simp only[a2J,List.lookup_nil] at h
 split at h
 · rename_i e;exact .inl ⟨eq_of_beq e,by injection h with h;exact h.symm⟩
 split at h
 · rename_i e;exact .inr (.inl ⟨eq_of_beq e,by injection h with h;exact h.symm⟩)
 split at h
 · rename_i e;exact .inr (.inr (.inl ⟨eq_of_beq e,by injection h with h;exact h.symm⟩))
 split at h
 · rename_i e;exact .inr (.inr (.inr (.inl ⟨eq_of_beq e,by injection h with h;exact h.symm⟩)))
 split at h
 · rename_i e;exact .inr (.inr (.inr (.inr (.inl ⟨eq_of_beq e,by injection h with h;exact h.symm⟩))))
 split at h
 · rename_i e;exact .inr (.inr (.inr (.inr (.inr (.inl ⟨eq_of_beq e,by injection h with h;exact h.symm⟩)))))
 split at h
 · rename_i e;exact .inr (.inr (.inr (.inr (.inr (.inr ⟨eq_of_beq e,by injection h with h;exact h.symm⟩)))))
 cases h
theorem OO {w f:Str}(h:FR.lookup w=some f):f.cps.all (· < 128)=true/\f.cps.size<=4/\Txt.startswith f (a0Q "nn")=V8 w/\(V8 w=true->2<=f.cps.size/\f.cps[0]?=some 110/\f.cps[1]?=some 110)/\1<=f.cps.size:=by
 rcases gR h with ⟨rfl,rfl⟩ | ⟨rfl,rfl⟩ | ⟨rfl,rfl⟩ | ⟨rfl,rfl⟩ | ⟨rfl,rfl⟩ | ⟨rfl,rfl⟩ | ⟨rfl,rfl⟩ <;> decide +kernel
def gS (d:PyData):Prop:=∃w f r,d = .tuple (.str w::r)/\FR.lookup w=some f
theorem V9 (D:Deed):gS D.d:=by cases D <;> exact⟨_,_,_,rfl,rfl⟩
theorem OP (D:Deed):LK D.d = .tuple (D.names.map .str):=by cases D <;> rfl
def nmS:PyData->List Str | .tuple ds=>ds.map O7 | _=>[]
def XQ (d:PyData):List Str:=nmS (LK d)
theorem VA (D:Deed):XQ D.d=D.names:=by
 unfold XQ
 rw[OP]
 show(D.names.map a1X).map O7=_
 rw[zD]
 exact b6Z _
def SR (d:PyData):Prop:=∃D:Deed,d=D.d/\D.ok
def IX:FSp:=fn1 (fun _=>True) OM
def EN:FSp:=fn1 gS LK
def DO (o:MO):Prop:=∃v:Int,o = .l [.int v]
def CQ:FSp:=⟨fun xs M=>∃c:Int,xs=[.d (.int c)]/\xJ c<=2 ^ 21,fun xs M y M'=>M'=M/\∃v:Int,y = .d (.int v)⟩
def BI:FSp:=⟨fun xs M=>∃p size o,xs=[.loc p,.d (.int size)]/\M p=some o/\DO o/\0 < size/\size < 1073741824,
 fun xs M y M'=>∀p size,xs=[.loc p,.d (.int size)]->∃v o,y = .d (.int v)/\0<=v/\v < size/\DO o/\M'=M.put p o⟩
theorem BB {p:Addr}{size:Int}{o:MO}{M:Own}{Q:DS->Own->Prop}(m:M p=some o) (ho:DO o) (h0:0 < size) (h1:size < 1073741824) (q:∀v o',0<=v->v < size->DO o'->Q (.d (.int v)) (M.put p o')) :
   [DS.loc p,.d (.int size)].length=2/\BI.pre [.loc p,.d (.int size)] M/\∀x M',BI.post [.loc p,.d (.int size)] M x M'->Q x M':=
 ⟨rfl,⟨p,size,o,rfl,m,ho,h0,h1⟩,fun x M' h=>by obtain⟨v,o',rfl,h2,h3,h4,rfl⟩:=h p size rfl;exact q v o' h2 h3 h4⟩
def XR:List Str:=["take", "name", "join"]
theorem LL {z:Str}(h:z∈XR):z.cps.toList=[116,97,107,101]∨z.cps.toList=[110,97,109,101]∨z.cps.toList=[106,111,105,110]:=by
 simp only[XR,yX,xX,or_false] at h
 rcases h with rfl | rfl | rfl
 · exact .inl (by decide +kernel)
 · exact .inr (.inl (by decide +kernel))
 · exact .inr (.inr (by decide +kernel))
def nxL (a:Nat):Nat:=if a=122 then 97 else a+1
def Run (l:List Nat):Prop:=∀i a b,l[i]?=some a->l[i+1]?=some b->b=nxL a
theorem Run.drop {l:List Nat}(h:Run l) (n:Nat):Run (l.drop n):=fun i a b h1 h2=>by
 rw[List.getElem?_drop] at h1 h2
 exact h (n+i) a b h1 (by rw[← Nat.add_assoc] at h2;exact h2)
theorem Run.take {l:List Nat}(h:Run l) (n:Nat):Run (l.take n):=fun i a b h1 h2=>by
 rw[List.getElem?_take] at h1 h2
 split at h1
 · split at h2
   · exact h i a b h1 h2
   · cases h2
 · cases h1
theorem m6 {z:Str}{n c:Nat}(h:z.cps.toList=a2Z n c):z∉XR:=fun hb=>by
 have key:∀a∈z.cps.toList,a=c:=fun a ha=>by rw[h] at ha;exact a8Q ha
 rcases LL hb with e | e | e
 · rw[e] at key
   have h1:=key 116 (by simp);have h2:=key 97 (by simp);omega
 · rw[e] at key
   have h1:=key 110 (by simp);have h2:=key 97 (by simp);omega
 · rw[e] at key
   have h1:=key 106 (by simp);have h2:=key 111 (by simp);omega
theorem m7 {z:Str}{c:Nat}{m:List Nat}(h:z.cps.toList=c::m) (hr:Run m):z∉XR:=fun hb=>by
 rcases LL hb with e | e | e
 · rw[e] at h;injection h with _ h;subst h
   exact absurd (hr 0 97 107 rfl rfl) (by decide)
 · rw[e] at h;injection h with _ h;subst h
   exact absurd (hr 0 97 109 rfl rfl) (by decide)
 · rw[e] at h;injection h with _ h;subst h
   exact absurd (hr 0 111 105 rfl rfl) (by decide)
theorem m8 {z:Str}{c:Nat}{m:List Nat}(h:z.cps.toList=m++[c]) (hr:Run m):z∉XR:=fun hb=>by
 have hm:m=z.cps.toList.dropLast:=by rw[h];simp
 rcases LL hb with e | e | e
 · rw[e] at hm;subst hm
   exact absurd (hr 0 116 97 rfl rfl) (by decide)
 · rw[e] at hm;subst hm
   exact absurd (hr 0 110 97 rfl rfl) (by decide)
 · rw[e] at hm;subst hm
   exact absurd (hr 0 106 111 rfl rfl) (by decide)
def uM (l:List Nat):Bool:=(a1V l.length).all fun i=>match l[i]?,l[i+1]? with | some a,some b=>b==nxL a | _,_=>true
theorem rR {l:List Nat}(h:uM l=true):Run l:=fun i a b h1 h2=>by
 have hi:i < l.length:=(yT.mp h1).1
 have:=List.all_eq_true.mp h i (List.mem_range.mpr hi)
 rw[h1,h2] at this
 exact eq_of_beq this
theorem gT:∀t,t < 26->uM ((a0Q "abcdefghijklmnopqrstuvwxyz").cps.toList.drop t++(a0Q "abcdefghijklmnopqrstuvwxyz").cps.toList.take t)=true:=by decide +kernel
theorem OQ {c:Int}{M:Own}{Q:DS->Own->Prop}(h:xJ c<=2 ^ 21) (q:∀v:Int,Q (.d (.int v)) M):[DS.d (.int c)].length=1/\CQ.pre [.d (.int c)] M/\∀x M',CQ.post [.d (.int c)] M x M'->Q x M':=
 ⟨rfl,⟨c,rfl,h⟩,fun x M' h=>by obtain⟨rfl,v,rfl⟩:=h;exact q v⟩
theorem AK {z:Str}(h:AM z):zH (.str z)=true:=BY (EL h) (by simp[a4W])
def Deed.word:Deed->Str
 | .put .. => "put" | .take .. => "take" | .move .. => "move" | .count .. => "count" | .name .. => "name" | .split .. => "split" | .join .. => "join"
def Deed.fst:Deed->Str
 | .put x _ _=>x | .take x=>x | .move x _=>x | .count x _=>x | .name x _=>x | .split x _ _ _=>x | .join x _=>x
def Deed.rest:Deed->List PyData
 | .put _ p k=>[.int p,.int k] | .take _=>[] | .move _ p=>[.int p] | .count _ k=>[.int k] | .name _ y=>[.str y] | .split _ y p k=>[.str y,.int p,.int k] | .join _ y=>[.str y]
theorem Deed.d_eq (D:Deed):D.d = .tuple (.str D.word::.str D.fst::D.rest):=by cases D <;> rfl
theorem Deed.word_ok (D:Deed):zH (.str D.word)=true:=by cases D <;> (simp only[Deed.word];decide +kernel)
theorem BK (a b:Str):a0Z (.str a) (.str b)=(a==b):=by simp[a0Z]
theorem VB {ss:List Str}(h:∀s∈ss,b6V s=true):zH (.list (ss.map .str))=true:=by
 refine BY (JW fun d hd=>?_) ?_
 · obtain⟨y,h1,rfl⟩:=zL.mp hd
   exact h y h1
 · have:a2X (ss.map a1X)<=0:=SG fun d hd=>by
     obtain⟨y,h1,rfl⟩:=zL.mp hd
     exact zR 0
   simp only[a4W];omega
theorem NE {ys:List Str}{v:Int}(h0:0<=v) (h1:v < ys.length):∃y,atI (ys.map a1X) v=some (.str y)/\y∈ys:=by
 obtain⟨n,rfl⟩:∃n:Nat,v=(n:Int):=⟨v.toNat,by omega⟩
 have hn:n < ys.length:=by omega
 exact⟨ys[n],AB (by rw[zF,zV hn];rfl),b1V hn⟩
def nmA (R:Str):PyData->PyData
 | .int i=>match atI R.cps.toList (i/8) with | some c=>.str (MV ⟨#[c]⟩ (1+i % 8)) | none=>.none
 | d=>d
def nmB (R t:Str):PyData->PyData
 | .int i=>match atI R.cps.toList i with | some c=>.str (⟨#[c]⟩++t) | none=>.none
 | d=>d
def nmC (R t:Str):PyData->PyData
 | .int i=>match atI R.cps.toList i with | some c=>.str (t++⟨#[c]⟩) | none=>.none
 | d=>d
theorem SS {R:Str}{i:Int}{c:Nat}(h:atI R.cps.toList (i/8)=some c):nmA R (.int i) = .str (MV ⟨#[c]⟩ (1+i % 8)):=by simp only[nmA,h]
theorem ST {R t:Str}{i:Int}{c:Nat}(h:atI R.cps.toList i=some c):nmB R t (.int i) = .str (⟨#[c]⟩++t):=by simp only[nmB,h]
theorem SU {R t:Str}{i:Int}{c:Nat}(h:atI R.cps.toList i=some c):nmC R t (.int i) = .str (t++⟨#[c]⟩):=by simp only[nmC,h]
def VC:FSp:=⟨fun xs M=>∃ns:List Int,xs=[.d (.list (ns.map .int))]/\ns.length<=63/\∀i∈ns,xJ i<=2 ^ 20,fun xs M y M'=>y = .d (.bool true)⟩
theorem OR {R:List Nat}(h:R.Nodup) {i j:Nat}{c:Nat}(h1:atI R (i:Int)=some c) (h2:atI R (j:Int)=some c) (hi:i < R.length) (hj:j < R.length):i=j:=by
 have e1:atI R (i:Int)=some R[i]:=AB (zV hi)
 have e2:atI R (j:Int)=some R[j]:=AB (zV hj)
 rw[e1] at h1
 rw[e2] at h2
 have:R[i]=R[j]:=by rw[Option.some.inj h1,Option.some.inj h2]
 exact(List.getElem_inj h).mp this
theorem nodup_range {N:Nat}{f:Nat->Str}(h:∀i j,i < N->j < N->f i=f j->i=j):((a1V N).map f).Nodup:=by
 unfold List.Nodup
 rw[a4Z]
 exact(List.nodup_range (n:=N)).imp_of_mem fun {a b} ha hb hab e=>hab (h a b (List.mem_range.mp ha) (List.mem_range.mp hb) e)
theorem bP (t:Nat):((a0Q "abcdefghijklmnopqrstuvwxyz").cps.toList.drop t++(a0Q "abcdefghijklmnopqrstuvwxyz").cps.toList.take t).Nodup:=by
 have h:((a0Q "abcdefghijklmnopqrstuvwxyz").cps.toList.drop t++(a0Q "abcdefghijklmnopqrstuvwxyz").cps.toList.take t).Perm (a0Q "abcdefghijklmnopqrstuvwxyz").cps.toList:=by
   refine List.perm_append_comm.trans ?_
   rw[b4K]
 exact h.nodup_iff.mpr X7
theorem gU {c d:Nat}{t:Str}(h:(⟨#[c]⟩:Str)++t=⟨#[d]⟩++t):c=d:=by
 have:=congrArg (fun s:Str=>s.cps.toList) h
 simp only[AQ] at this
 have:=List.append_cancel_right this
 simpa using this
theorem gV {c d:Nat}{t:Str}(h:t++(⟨#[c]⟩:Str)=t++⟨#[d]⟩):c=d:=by
 have:=congrArg (fun s:Str=>s.cps.toList) h
 simp only[AQ] at this
 have:=List.append_cancel_left this
 simpa using this
theorem m9 {c d:Nat}{m n:Int}(hm:1<=m) (hn:1<=n) (h:MV ⟨#[c]⟩ m=MV ⟨#[d]⟩ n):c=d/\m=n:=by
 have:=congrArg (fun s:Str=>s.cps.toList) h
 simp only[SM hm,SM hn] at this
 have hl:=congrArg b6J this
 rw[b0J,b0J] at hl
 have hmn:m=n:=by omega
 refine⟨?_,hmn⟩
 subst hmn
 have hc:c∈a2Z m.toNat d:=by rw[← this];exact List.mem_replicate.mpr ⟨by omega,rfl⟩
 exact a8Q hc
end DL
namespace DL
open PySem PySem.Spec L2
def KC:PyData->PyData->Bool
 | .str s,p=>if s == "n" then C9 p else if s == "p" then JU p else LF p
 | _,p=>LF p
def XS:FSp:=fn2 (fun a b=>∃c:Nat,a = .str ⟨#[c]⟩/\c < 128/\okD b) fun a b=>.bool (KC a b)
def GF (f:Str) (r:List PyData):Bool:=((BL f).zip r).all fun p=>KC p.1 p.2
def AZ:List PyData->Bool
 | .str w::r=>match FR.lookup w with
   | some f=>(r.length==f.cps.size)&&GF f r&&(!V8 w||!a0Z (r.getD 0 .none) (r.getD 1 .none))
   | none=>false
 | _=>false
def ZK:PyData->Bool | .tuple ds=>AZ ds | _=>false
def okP:PyData->Prop | .tuple ds=>ds.length<=5000/\∀d∈ds,okD d | _=>True
def IY:FSp:=fn1 okP fun d=>.bool (ZK d)
def uN:PyData->PyData | .tuple [a,b]=>.bool (KC a b) | d=>d
theorem gW (f:Str) (r:List PyData):((UJ (BL f) r).filter fun _=>true).map uN=(((BL f).zip r).map fun p=>KC p.1 p.2).map .bool:=by
 rw[flt]
 unfold UJ
 rw[zD,zD];rfl
theorem gX {f:Str}{a b:PyData}{r:List PyData}(h0:f.cps[0]?=some 110) (h1:f.cps[1]?=some 110) (h:GF f (a::b::r)=true):C9 a=true/\C9 b=true:=by
 unfold GF at h
 rw[b2Q] at h
 have e0:((BL f).zip (a::b::r))[0]?=some (.str ⟨#[110]⟩,a):=by
   rw[a7W]
   exact⟨by unfold BL;rw[zF];simp[h0],rfl⟩
 have e1:((BL f).zip (a::b::r))[1]?=some (.str ⟨#[110]⟩,b):=by
   rw[a7W]
   exact⟨by unfold BL;rw[zF];simp[h1],rfl⟩
 have q:∀d,KC (.str ⟨#[110]⟩) d=C9 d:=fun d=>rfl
 exact⟨by rw[← q];exact h _ (yN e0),by rw[← q];exact h _ (yN e1)⟩
def FS:PyData->PyData
 | .tuple (.str w::r)=>if w == "put" then r.getD 0 .none else if w == "name" || w == "split" then r.getD 1 .none else .none
 | _=>.none
def FT:FSp:=fn1 SR FS
def VD (d:PyData):List Str:=(XQ d).filter fun n=>!a0Z (.str n) (FS d)
def GG:FSp:=fn1 SR fun d=>.tuple ((VD d).map .str)
def Deed.isPut:Deed->Bool | .put ..=>true | _=>false
def Deed.isNS:Deed->Bool | .name ..=>true | .split ..=>true | _=>false
theorem gY (D:Deed):(D.word==a0Q "put")=D.isPut:=by cases D <;> (simp only[Deed.word,Deed.isPut];decide +kernel)
theorem vX (w a b:Str):decide (w∈[a,b])=(w==a||w==b):=by rw[a8Z];simp
theorem mB (D:Deed):(D.word==a0Q "name" || D.word==a0Q "split")=D.isNS:=by cases D <;> (simp only[Deed.word,Deed.isNS];decide +kernel)
theorem ZL {D:Deed}(h:D.ok):zH (FS D.d)=true:=by
 cases D with
 | put x p k=>exact AK (h x (by simp[Deed.names]))
 | name x y=>exact AK (h y (by simp[Deed.names]))
 | split x y p k=>exact AK (h y (by simp[Deed.names]))
 | _=>rfl
end DL
namespace DL
open PySem PySem.Spec L2
def pcD (p c:Int):PyData:=.tuple [.int p,.int c]
def tsD (ts:List Th):List (Str×PyData):=ts.map fun t=>(t.1,pcD t.2.1 t.2.2)
def EY (ts:List Th) (k:Str) (p c:Int):List Th:=if (ts.any fun t=>decide (t.1=k))=true then ts.map (fun t=>if t.1=k then (t.1,p,c) else t) else ts++[(k,p,c)]
def E8 (ts:List Th) (k:Str):List Th:=ts.filter fun t=>decide (t.1≠k)
def AE:List Th->Str->Option (Int×Int)
 | [],_=>none
 | t::r,k=>if t.1=k then some t.2 else AE r k
theorem CI (ts:List Th) (k:Str) (p c:Int):V2 (tsD ts) k (pcD p c)=tsD (EY ts k p c):=by
 unfold V2 EY tsD
 have e:((ts.map fun t=>(t.1,pcD t.2.1 t.2.2)).any fun t=>decide (t.1=k))=ts.any fun t=>decide (t.1=k):=by rw[List.any_map];rfl
 rw[e]
 split
 · rw[zD,zD]
   apply yM
   intro t _
   show(if t.1=k then (t.1,pcD p c) else _)=_
   simp only[Function.comp]
   split <;> rfl
 · simp
theorem FU (ts:List Th) (k:Str):R7 (tsD ts) k=tsD (E8 ts k):=by
 unfold R7 E8 tsD
 rw[xU];rfl
theorem AN (k:Str):∀ts:List Th,AU (tsD ts) k=(AE ts k).map fun v=>pcD v.1 v.2
 | []=>rfl
 | t::r=>by
   have ih:=AN k r
   unfold tsD at ih ⊢
   simp only[zI,AU,AE]
   split
   · rfl
   · exact ih
theorem D6 {k:Str}:∀{ts:List Th}{v:Int×Int},AE ts k=some v->(k,v)∈ts
 | t::r,v,h=>by
   unfold AE at h
   split at h
   · rename_i e;cases h;subst e;exact a1Z
   · exact yV _ (D6 h)
theorem D7 {k:Str}:∀{ts:List Th},AE ts k=none↔k∉ts.map (·.1)
 | []=>by simp[AE]
 | t::r=>by
   unfold AE
   rw[zI,yX]
   split
   · rename_i e;simp[e]
   · rename_i e
     rw[D7]
     constructor
     · intro h q;rcases q with q | q;exact e q.symm;exact h q
     · intro h q;exact h (.inr q)
theorem GH {k:Str}{ts:List Th}:(AE ts k).isSome=decide (k∈ts.map (·.1)):=by
 cases h:AE ts k with
 | none=>rw[decide_eq_false (D7.mp h)];rfl
 | some v=>rw[decide_eq_true (zL.mpr ⟨_,D6 h,rfl⟩)];rfl
theorem CS {t:Th}:∀{ts:List Th},(ts.map (·.1)).Nodup->t∈ts->AE ts t.1=some t.2
 | u::r,nd,h=>by
   unfold AE
   rcases yX.mp h with rfl | h
   · rw[if_pos rfl]
   · rw[zI,xV] at nd
     rw[if_neg fun e=>nd.1 (by rw[e];exact zL.mpr ⟨t,h,rfl⟩)]
     exact CS nd.2 h
def XT (t:Th):List Th->List Th
 | []=>[t]
 | u::r=>if sl t.1 u.1=true then t::u::r else u::XT t r
def B0:List Th->List Th
 | []=>[]
 | t::r=>XT t (B0 r)
theorem LM (t:Th):∀ts:List Th,(XT t ts).Perm (t::ts)
 | []=>.refl _
 | u::r=>by
   unfold XT
   split
   · exact .refl _
   · exact((LM t r).cons u).trans (.swap _ _ _)
theorem B3:∀ts:List Th,(B0 ts).Perm ts
 | []=>.refl _
 | t::r=>(LM t _).trans ((B3 r).cons t)
theorem VE (t:Th):∀{ts:List Th},Ris (ts.map (·.1))->t.1∉ts.map (·.1)->Ris ((XT t ts).map (·.1))
 | [],_,_=>by simp[XT,Ris]
 | u::r,h,hn=>by
   unfold XT
   unfold Ris at h
   rw[zI,a7Z] at h
   rw[zI,yX] at hn
   split
   · rename_i e
     unfold Ris
     rw[zI,zI,a7Z,a7Z]
     refine⟨fun x hx=>?_,h⟩
     rcases yX.mp hx with rfl | hx
     · exact e
     · exact O4 e (h.1 x hx)
   · rename_i e
     have e':sl t.1 u.1=false:=by simpa using e
     have hlt:sl u.1 t.1=true:=by
       cases hq:sl u.1 t.1 with
       | true=>rfl
       | false=>exact absurd (O5 e' hq) fun q=>hn (.inl q)
     unfold Ris
     rw[zI,a7Z]
     refine⟨fun x hx=>?_,VE t h.2 fun q=>hn (.inr q)⟩
     have:=((LM t r).map (·.1)).mem_iff.mp hx
     rcases yX.mp this with rfl | hx
     · exact hlt
     · exact h.1 x hx
theorem HZ:∀{ts:List Th},(ts.map (·.1)).Nodup->Ris ((B0 ts).map (·.1))
 | [],_=>List.Pairwise.nil
 | t::r,nd=>by
   rw[zI,xV] at nd
   exact VE t (HZ nd.2) fun q=>nd.1 (((B3 r).map (·.1)).mem_iff.mp q)
theorem VF:∀{as bs:List Th},as.Perm bs->Ris (as.map (·.1))->Ris (bs.map (·.1))->as=bs
 | [],bs,p,_,_=>(List.nil_perm.mp p).symm
 | a::as,[],p,_,_=>by have:=p.length_eq;simp at this
 | a::as,b::bs,p,h1,h2=>by
   unfold Ris at h1 h2
   rw[zI,a7Z] at h1 h2
   have e:a=b:=by
     rcases yX.mp (p.mem_iff.mp (a1Z (a:=a) (l:=as))) with e | e
     · exact e
     · rcases yX.mp (p.mem_iff.mpr (a1Z (a:=b) (l:=bs))) with e' | e'
       · exact e'.symm
       · have x1:=h1.1 b.1 (zL.mpr ⟨b,e',rfl⟩)
         have x2:=h2.1 a.1 (zL.mpr ⟨a,e,rfl⟩)
         rw[UN x1] at x2;cases x2
   subst e
   rw[VF (List.Perm.cons_inv p) h1.2 h2.2]
theorem R9 {as bs:List Th}(p:as.Perm bs) (h:Ris (as.map (·.1))):as=B0 bs:=
 VF (p.trans (B3 bs).symm) h (HZ ((p.map (·.1)).nodup_iff.mp h.nodup))
theorem RA {w:List Th}(h:Ris (w.map (·.1))):B0 w=w:=(R9 (.refl w) h).symm
def GI (ts:List Th) (x:Str) (k:Int):List Th:=match AE ts x with | some v=>EY ts x v.1 (v.2+k) | none=>ts
def doT (ts:List Th):Deed->List Th
 | .put x p k=>EY ts x p k
 | .take x=>E8 ts x
 | .move x p=>match AE ts x with | some v=>EY ts x p v.2 | none=>ts
 | .count x k=>GI ts x k
 | .name x y=>match AE ts x with | some v=>EY (E8 ts x) y v.1 v.2 | none=>ts
 | .split x y p k=>EY (GI ts x (-k)) y p k
 | .join x y=>match AE ts y with | some v=>E8 (GI ts x v.2) y | none=>ts
def Deed.made:Deed->Option Str | .put x _ _=>some x | .name _ y=>some y | .split _ y _ _=>some y | _=>none
def Deed.apart:Deed->Prop | .name x y=>x≠y | .split x y _ _=>x≠y | .join x y=>x≠y | _=>True
def Deed.placed:Deed->Prop | .put _ p _=>0<=p/\p<=999 | .move _ p=>0<=p/\p<=999 | .split _ _ p _=>0<=p/\p<=999 | _=>True
def Deed.real (D:Deed):Prop:=D.ok/\D.apart/\D.placed
theorem IA {D:Deed}(h:D.real):SR D.d:=⟨D,rfl,h.1⟩
def B9 (ns:List Str) (D:Deed):Option Str:=D.names.find? fun n=>decide (n∈ns)==decide (D.made=some n)
theorem CL {ns:List Str}{D:Deed}(h:B9 ns D=none):∀n∈D.names,(n∈ns)↔¬D.made=some n:=fun n hn=>by
 have:=List.find?_eq_none.mp h n hn
 by_cases h1:n∈ns <;> by_cases h2:D.made=some n <;> simp_all
theorem NF (D:Deed):FS D.d=match D.made with | some x=>.str x | none=>.none:=by cases D <;> rfl
def BG (ts:List Th):Deed->Deed
 | .put x _ _=>.take x
 | .take x=>match AE ts x with | some v=>.put x v.1 v.2 | none=>.take x
 | .move x p=>match AE ts x with | some v=>.move x v.1 | none=>.move x p
 | .count x k=>.count x (-k)
 | .name x y=>.name y x
 | .split x y _ _=>.join x y
 | .join x y=>match AE ts y with | some v=>.split x y v.1 v.2 | none=>.join x y
abbrev tsO (ts:List Th):MO:=.d (AS (tsD ts))
def RB (ts:List Th):Prop:=(ts.map (·.1)).Nodup/\ts.length < 63
def CJ:FSp:=⟨fun xs M=>∃w:List Th,xs=[.d (wD w)]/\RB w,fun xs M y M'=>∀w:List Th,xs=[.d (wD w)]->∃p,M p=none/\y = .loc p/\M'=M.put p (tsO w)⟩
def B4:FSp:=⟨fun xs M=>∃(p:Addr) (ts:List Th),xs=[.loc p]/\M p=some (tsO ts)/\(ts.map (·.1)).Nodup/\ts.length < 64,fun xs M y M'=>∀(p:Addr) (ts:List Th),xs=[.loc p]->M p=some (tsO ts)->(ts.map (·.1)).Nodup->y = .d (wD (B0 ts))/\M'=M⟩
def B5:FSp:=⟨fun xs M=>∃(p:Addr) (ts:List Th) (D:Deed),xs=[.loc p,.d D.d]/\M p=some (tsO ts)/\D.real/\B9 (ts.map (·.1)) D=none,fun xs M y M'=>y = .d .none/\M'=M⟩
def DQ:FSp:=⟨fun xs M=>∃(p:Addr) (ts:List Th) (x:Str) (k:Int) (v:Int×Int),xs=[.loc p,.d (.str x),.d (.int k)]/\M p=some (tsO ts)/\AE ts x=some v/\ts.length < 64,
 fun xs M y M'=>∀(p:Addr) (ts:List Th) (x:Str) (k:Int),xs=[.loc p,.d (.str x),.d (.int k)]->M p=some (tsO ts)->y = .d .none/\M'=M.put p (tsO (GI ts x k))⟩
def IB:FSp:=⟨fun xs M=>∃(p:Addr) (ts:List Th) (D:Deed),xs=[.loc p,.d D.d]/\M p=some (tsO ts)/\RB ts/\D.real/\B9 (ts.map (·.1)) D=none,
 fun xs M y M'=>∀(p:Addr) (ts:List Th) (D:Deed),xs=[.loc p,.d D.d]->M p=some (tsO ts)->y = .d .none/\M'=M.put p (tsO (doT ts D))⟩
def goD (w:List Th) (D:Deed):Prop:=RB w/\D.real/\B9 (w.map (·.1)) D=none
def OS:FSp:=⟨fun xs M=>∃(w:List Th) (D:Deed),xs=[.d (wD w),.d D.d]/\goD w D,fun xs M y M'=>∀(w:List Th) (D:Deed),xs=[.d (wD w),.d D.d]->y = .d (wD (B0 (doT w D)))/\M'=M⟩
def DU:FSp:=⟨fun xs M=>∃(w:List Th) (D:Deed),xs=[.d (wD w),.d D.d]/\goD w D,fun xs M y M'=>∀(w:List Th) (D:Deed),xs=[.d (wD w),.d D.d]->y = .d (BG w D).d/\M'=M⟩
theorem mD {t u:Th}(h:thD t=thD u):t=u:=by
 obtain⟨a,b,c⟩:=t
 obtain⟨a',b',c'⟩:=u
 simp only[thD,PyData.tuple.injEq,List.cons.injEq,PyData.str.injEq,PyData.int.injEq,and_true] at h
 obtain⟨rfl,rfl,rfl⟩:=h
 rfl
theorem MC:∀{v w:List Th},v.map thD=w.map thD->v=w
 | [],[],_=>rfl
 | [],_::_,h=>by simp at h
 | _::_,[],h=>by simp at h
 | a::v,b::w,h=>by
   rw[zI,zI,List.cons.injEq] at h
   rw[mD h.1,MC h.2]
theorem OT {v w:List Th}(h:wD v=wD w):v=w:=MC (by unfold wD at h;exact PyData.tuple.inj h)
theorem EO {D E:Deed}(h:D.d=E.d):D=E:=by
 cases D <;> cases E <;> simp only[Deed.d,PyData.tuple.injEq,List.cons.injEq,PyData.str.injEq,PyData.int.injEq,and_true,true_and,reduceCtorEq,and_false,false_and,List.nil_eq] at h <;>
   first
   | (obtain⟨_,h⟩:=h;first | (obtain⟨rfl,rfl,rfl,rfl⟩:=h;rfl) | (obtain⟨rfl,rfl,rfl⟩:=h;rfl) | (obtain⟨rfl,rfl⟩:=h;rfl) | (subst h;rfl))
   | (obtain⟨rfl,rfl,rfl,rfl⟩:=h;rfl) | (obtain⟨rfl,rfl,rfl⟩:=h;rfl) | (obtain⟨rfl,rfl⟩:=h;rfl) | (subst h;rfl)
   | exact absurd h.1 (by decide +kernel)
theorem rS {a b c d:Int}(h:pcD a b=pcD c d):a=c/\b=d:=by
 simp only[pcD,PyData.tuple.injEq,List.cons.injEq,PyData.int.injEq,and_true] at h;exact h
theorem SV:∀{ts us:List Th},tsO ts=tsO us->ts=us:=by
 intro ts us h
 have h:AS (tsD ts)=AS (tsD us):=by injection h
 unfold AS tsD at h
 rw[zD,zD] at h
 have go:∀(ts us:List Th),ts.map ((fun t:Str×PyData=>(a1X t.1,t.2))∘fun t:Th=>(t.1,pcD t.2.1 t.2.2))=us.map ((fun t:Str×PyData=>(a1X t.1,t.2))∘fun t:Th=>(t.1,pcD t.2.1 t.2.2))->ts=us:=by
   intro ts
   induction ts with
   | nil=>intro us h;cases us with | nil=>rfl | cons _ _=>simp at h
   | cons t ts ih=>
     intro us h
     cases us with
     | nil=>simp at h
     | cons u us=>
       rw[zI,zI,List.cons.injEq] at h
       obtain⟨h1,h2⟩:=h
       simp only[Function.comp,Prod.mk.injEq,PyData.str.injEq] at h1
       obtain⟨e1,e2⟩:=h1
       obtain⟨e3,e4⟩:=rS e2
       rw[ih us h2]
       obtain⟨a,b,c⟩:=t
       obtain⟨a',b',c'⟩:=u
       simp only at e1 e3 e4
       rw[e1,e3,e4]
 exact go ts us h
section
variable {M:Own}{Q:DS->Own->Prop}
theorem FH {w:List Th}(h:RB w) (q:∀p,M p=none->Q (.loc p) (M.put p (tsO w))):[DS.d (wD w)].length=1/\CJ.pre [.d (wD w)] M/\∀x M',CJ.post [.d (wD w)] M x M'->Q x M':=
 ⟨rfl,⟨w,rfl,h⟩,fun x M' h=>by obtain⟨p,h1,rfl,rfl⟩:=h w rfl;exact q p h1⟩
theorem MD {p:Addr}{ts:List Th}(m:M p=some (tsO ts)) (nd:(ts.map (·.1)).Nodup) (hl:ts.length < 64) (q:Q (.d (wD (B0 ts))) M):[DS.loc p].length=1/\B4.pre [.loc p] M/\∀x M',B4.post [.loc p] M x M'->Q x M':=
 ⟨rfl,⟨p,ts,rfl,m,nd,hl⟩,fun x M' h=>by obtain⟨rfl,rfl⟩:=h p ts rfl m nd;exact q⟩
theorem ME {p:Addr}{ts:List Th}{D:Deed}(m:M p=some (tsO ts)) (hr:D.real) (ha:B9 (ts.map (·.1)) D=none) (q:Q (.d .none) M):[DS.loc p,.d D.d].length=2/\B5.pre [.loc p,.d D.d] M/\∀x M',B5.post [.loc p,.d D.d] M x M'->Q x M':=
 ⟨rfl,⟨p,ts,D,rfl,m,hr,ha⟩,fun x M' h=>by obtain⟨rfl,rfl⟩:=h;exact q⟩
theorem OU {p:Addr}{ts:List Th}{x:Str}{k:Int}{v:Int×Int}(m:M p=some (tsO ts)) (hl:AE ts x=some v) (hz:ts.length < 64) (q:Q (.d .none) (M.put p (tsO (GI ts x k)))):[DS.loc p,.d (.str x),.d (.int k)].length=3/\DQ.pre [.loc p,.d (.str x),.d (.int k)] M/\∀x' M',DQ.post [.loc p,.d (.str x),.d (.int k)] M x' M'->Q x' M':=
 ⟨rfl,⟨p,ts,x,k,v,rfl,m,hl,hz⟩,fun x' M' h=>by obtain⟨rfl,rfl⟩:=h p ts x k rfl m;exact q⟩
theorem VG {p:Addr}{ts:List Th}{D:Deed}(m:M p=some (tsO ts)) (hc:RB ts) (hr:D.real) (ha:B9 (ts.map (·.1)) D=none) (q:Q (.d .none) (M.put p (tsO (doT ts D)))):[DS.loc p,.d D.d].length=2/\IB.pre [.loc p,.d D.d] M/\∀x M',IB.post [.loc p,.d D.d] M x M'->Q x M':=
 ⟨rfl,⟨p,ts,D,rfl,m,hc,hr,ha⟩,fun x M' h=>by obtain⟨rfl,rfl⟩:=h p ts D rfl m;exact q⟩
theorem bQ {w:List Th}{D:Deed}(h:goD w D) (q:Q (.d (wD (B0 (doT w D)))) M):[DS.d (wD w),.d D.d].length=2/\OS.pre [.d (wD w),.d D.d] M/\∀x M',OS.post [.d (wD w),.d D.d] M x M'->Q x M':=
 ⟨rfl,⟨w,D,rfl,h⟩,fun x M' h=>by obtain⟨rfl,rfl⟩:=h w D rfl;exact q⟩
theorem bR {w:List Th}{D:Deed}(h:goD w D) (q:Q (.d (BG w D).d) M):[DS.d (wD w),.d D.d].length=2/\DU.pre [.d (wD w),.d D.d] M/\∀x M',DU.post [.d (wD w),.d D.d] M x M'->Q x M':=
 ⟨rfl,⟨w,D,rfl,h⟩,fun x M' h=>by obtain⟨rfl,rfl⟩:=h w D rfl;exact q⟩
end
end DL
namespace DL
open PySem PySem.Spec L2
theorem SW (ds:List PyData):(ds.filter fun _=>true)=ds:=List.filter_eq_self.mpr (by simp)
def rT:PyData->PyData | .tuple [_,p,c]=>.tuple [p,c] | d=>d
theorem RC:∀{as bs:List Str},as.Perm bs->Ris as->Ris bs->as=bs
 | [],bs,p,_,_=>(List.nil_perm.mp p).symm
 | a::as,[],p,_,_=>by have:=p.length_eq;simp at this
 | a::as,b::bs,p,h1,h2=>by
   unfold Ris at h1 h2
   rw[a7Z] at h1 h2
   have e:a=b:=by
     rcases yX.mp (p.mem_iff.mp (a1Z (a:=a) (l:=as))) with e | e
     · exact e
     · rcases yX.mp (p.mem_iff.mpr (a1Z (a:=b) (l:=bs))) with e' | e'
       · exact e'.symm
       · have x1:=h1.1 b e'
         have x2:=h2.1 a e;rw[UN x1] at x2;cases x2
   subst e
   rw[RC (List.Perm.cons_inv p) h1.2 h2.2]
def RD (ts:List Th):PyData->PyData
 | .str s=>match AE ts s with | some v=>.tuple [.str s,.int v.1,.int v.2] | none=>.none
 | d=>d
theorem RE {ts:List Th}{ss:List Str}(nd:(ts.map (·.1)).Nodup) (p:ss.Perm (ts.map (·.1))) (h:xG ss=true):(ss.map a1X).map (RD ts)=(B0 ts).map thD:=by
 have nd2:ss.Nodup:=p.nodup_iff.mpr nd
 have e:ss=(B0 ts).map (·.1):=RC (p.trans ((B3 ts).map (·.1)).symm) (X6 h nd2) (HZ nd)
 rw[e,zD,zD]
 apply yM
 intro t ht
 have:=CS nd ((B3 ts).mem_iff.mp ht)
 simp only[Function.comp,RD,this]
 rfl
def wT (s:String):PyData:=.str (a0Q s)
theorem rV (a b c:PyData):AZ [wT "put", a,b,c]=(C9 a&&(JU b&&(LF c&&true))&&true):=rfl
theorem mE (a:PyData):AZ [wT "take", a]=(C9 a&&true&&true):=rfl
theorem mF (a b:PyData):AZ [wT "move", a,b]=(C9 a&&(JU b&&true)&&true):=rfl
theorem gZ (a b:PyData):AZ [wT "count", a,b]=(C9 a&&(LF b&&true)&&true):=rfl
theorem mG (a b:PyData):AZ [wT "name", a,b]=(C9 a&&(C9 b&&true)&&(!a0Z a b)):=rfl
theorem mH (a b:PyData):AZ [wT "join", a,b]=(C9 a&&(C9 b&&true)&&(!a0Z a b)):=rfl
theorem h7 (a b c d:PyData):AZ [wT "split", a,b,c,d]=(C9 a&&(C9 b&&(JU c&&(LF d&&true)))&&(!a0Z a b)):=rfl
theorem mI {D:Deed}(h:D.real):ZK D.d=true:=by
 obtain⟨h1,nd,pl⟩:=h
 have nm:∀x∈D.names,C9 (.str x)=true:=fun x hx=>fW (h1 x hx)
 have ne:∀x y:Str,x≠y->a0Z (.str x) (.str y)=false:=fun x y hn=>by simp[a0Z,hn]
 have pp:∀p:Int,0<=p/\p<=999->JU (.int p)=true:=fun p hp=>by
   show(decide (0<=p)&&decide (p<=999))=true
   rw[decide_eq_true hp.1,decide_eq_true hp.2];rfl
 cases D with
 | put x p k=>show AZ [wT "put", .str x,.int p,.int k]=true;rw[rV,nm x (by simp[Deed.names]),pp p pl];rfl
 | take x=>show AZ [wT "take", .str x]=true;rw[mE,nm x (by simp[Deed.names])];rfl
 | move x p=>show AZ [wT "move", .str x,.int p]=true;rw[mF,nm x (by simp[Deed.names]),pp p pl];rfl
 | count x k=>show AZ [wT "count", .str x,.int k]=true;rw[gZ,nm x (by simp[Deed.names])];rfl
 | name x y=>show AZ [wT "name", .str x,.str y]=true;rw[mG,nm x (by simp[Deed.names]),nm y (by simp[Deed.names]),ne x y nd];rfl
 | split x y p k=>show AZ [wT "split", .str x,.str y,.int p,.int k]=true;rw[h7,nm x (by simp[Deed.names]),nm y (by simp[Deed.names]),ne x y nd,pp p pl];rfl
 | join x y=>show AZ [wT "join", .str x,.str y]=true;rw[mH,nm x (by simp[Deed.names]),nm y (by simp[Deed.names]),ne x y nd];rfl
theorem mJ {D:Deed}(h:D.ok):okP D.d:=by
 have wk:∀s:Str,(decide (s.cps.size<=5000)&&s.cps.toList.all (fun c=>decide (c < 128)))=true->okD (.str s):=fun s h=>by
   simp only[a0V,decide_eq_true_eq,b2Q] at h
   exact h
 have nk:∀x∈D.names,okD (.str x):=fun x hx=>fU (h x hx)
 cases D <;> (refine⟨by simp,?_⟩;simp only[List.forall_mem_cons])
 · exact⟨wk _ (by decide +kernel),nk _ (by simp[Deed.names]),trivial,trivial,by simp⟩
 · exact⟨wk _ (by decide +kernel),nk _ (by simp[Deed.names]),by simp⟩
 · exact⟨wk _ (by decide +kernel),nk _ (by simp[Deed.names]),trivial,by simp⟩
 · exact⟨wk _ (by decide +kernel),nk _ (by simp[Deed.names]),trivial,by simp⟩
 · exact⟨wk _ (by decide +kernel),nk _ (by simp[Deed.names]),nk _ (by simp[Deed.names]),by simp⟩
 · exact⟨wk _ (by decide +kernel),nk _ (by simp[Deed.names]),nk _ (by simp[Deed.names]),trivial,trivial,by simp⟩
 · exact⟨wk _ (by decide +kernel),nk _ (by simp[Deed.names]),nk _ (by simp[Deed.names]),by simp⟩
theorem mK (D:Deed) (n:Str):a0Z (.str n) (FS D.d)=decide (D.made=some n):=by
 rw[NF]
 cases h:D.made with
 | none=>simp[a0Z]
 | some x=>simp only[a0Z,Option.some.injEq];rw[a8Z];simp;exact eq_comm
theorem bS (a b:Bool):a0Z (.bool a) (.bool b)=(a==b):=by cases a <;> cases b <;> rfl
theorem VH {ts:List Th}{x:Str}{p c:Int}(h:x∈ts.map (·.1)):EY ts x p c=ts.map fun t=>if t.1=x then (t.1,p,c) else t:=by
 unfold EY
 obtain⟨t,ht,e⟩:=zL.mp h
 rw[if_pos (List.any_eq_true.mpr ⟨t,ht,by simpa using e⟩)]
theorem KD {ts:List Th}{x:Str}{p c:Int}(h:x∉ts.map (·.1)):EY ts x p c=ts++[(x,p,c)]:=by
 unfold EY
 rw[if_neg]
 intro e
 obtain⟨t,ht,e⟩:=List.any_eq_true.mp e
 exact h (zL.mpr ⟨t,ht,by simpa using e⟩)
theorem OV {ts:List Th}{x:Str}{p c:Int}(h:x∈ts.map (·.1)):(EY ts x p c).map (·.1)=ts.map (·.1):=by
 rw[VH h,zD]
 apply yM
 intro t _
 simp only[Function.comp]
 split <;> rfl
theorem AT {ts:List Th}{x:Str}(h:x∈ts.map (·.1)):∃v,AE ts x=some v:=by
 cases e:AE ts x with
 | none=>exact absurd h (D7.mp e)
 | some v=>exact⟨v,rfl⟩
theorem ZM {ts:List Th}{x:Str}{v:Int×Int}(h:AE ts x=some v):x∈ts.map (·.1):=zL.mpr ⟨_,D6 h,rfl⟩
theorem D8 {ts:List Th}{x:Str}{k:Int}:(GI ts x k).map (·.1)=ts.map (·.1):=by
 unfold GI
 cases e:AE ts x with
 | none=>rfl
 | some v=>exact OV (ZM e)
theorem h8 {ts:List Th}{x:Str}{k:Int}:(GI ts x k).length=ts.length:=by
 have:=congrArg b6J (D8 (ts:=ts) (x:=x) (k:=k))
 simpa using this
theorem GJ {M:Own}{p p':Addr}{ts ts':List Th}{D D':Deed}(m:M p=some (tsO ts)) (e:[DS.loc p,.d D.d]=[.loc p',.d D'.d]) (m':M p'=some (tsO ts')):p=p'/\ts=ts'/\D=D':=by
 simp only[List.cons.injEq,DS.loc.injEq,DS.d.injEq,and_true] at e
 obtain⟨rfl,e⟩:=e
 exact⟨rfl,SV (Option.some.inj (m.symm.trans m')),EO e⟩
theorem IC {w w':List Th}{D D':Deed}(e:[DS.d (wD w),.d D.d]=[.d (wD w'),.d D'.d]):w=w'/\D=D':=by
 simp only[List.cons.injEq,DS.d.injEq,and_true] at e
 exact⟨OT e.1,EO e.2⟩
theorem CT {ts:List Th}(h:ts.length < 64):(tsD ts).length < sizeLine:=by unfold tsD;rw[zX];exact zP h (by decide)
theorem F5 (ts:List Th) (x:Str):(E8 ts x).map (·.1)=(ts.map (·.1)).filter fun n=>decide (n≠x):=by
 unfold E8
 rw[xU];rfl
def BE (ns:List Str):Deed->List Str
 | .put x _ _=>ns++[x]
 | .take x=>ns.filter fun n=>decide (n≠x)
 | .move _ _=>ns
 | .count _ _=>ns
 | .name x y=>(ns.filter fun n=>decide (n≠x))++[y]
 | .split _ y _ _=>ns++[y]
 | .join _ y=>ns.filter fun n=>decide (n≠y)
theorem KF {ns:List Str}{D:Deed}(ha:B9 ns D=none) {n:Str}(hn:n∈D.names) (hm:D.made≠some n):n∈ns:=(CL ha n hn).mpr hm
theorem JZ {ns:List Str}{D:Deed}(ha:B9 ns D=none) {n:Str}(hn:n∈D.names) (hm:D.made=some n):n∉ns:=fun q=>(CL ha n hn).mp q hm
theorem LN {ts:List Th}{D:Deed}(hr:D.real) (ha:B9 (ts.map (·.1)) D=none):(doT ts D).map (·.1)=BE (ts.map (·.1)) D:=by
 cases D with
 | put x p k=>
   show(EY ts x p k).map (·.1)=_
   rw[KD (JZ ha (by simp[Deed.names]) rfl),xI];rfl
 | take x=>exact F5 ts x
 | move x p=>
   obtain⟨v,hv⟩:=AT (KF ha (n:=x) (by simp[Deed.names]) (by simp[Deed.made]))
   simp only[doT,hv]
   exact OV (ZM hv)
 | count x k=>exact D8
 | name x y=>
   obtain⟨v,hv⟩:=AT (KF ha (n:=x) (by simp[Deed.names]) (by simp[Deed.made];exact fun e=>hr.2.1 e.symm))
   simp only[doT,hv]
   have hy:y∉(E8 ts x).map (·.1):=by
     rw[F5]
     intro q
     exact JZ ha (n:=y) (by simp[Deed.names]) rfl (yL.mp q).1
   rw[KD hy,xI,F5];rfl
 | split x y p k=>
   show(EY (GI ts x (-k)) y p k).map (·.1)=_
   have hy:y∉(GI ts x (-k)).map (·.1):=by
     rw[D8]
     exact JZ ha (n:=y) (by simp[Deed.names]) rfl
   rw[KD hy,xI,D8];rfl
 | join x y=>
   obtain⟨v,hv⟩:=AT (KF ha (n:=y) (by simp[Deed.names]) (by simp[Deed.made]))
   simp only[doT,hv]
   rw[F5,D8];rfl
theorem SX {ns:List Str}{D:Deed}(nd:ns.Nodup) (ha:B9 ns D=none):(BE ns D).Nodup:=by
 have app:∀{l:List Str}{y:Str},l.Nodup->y∉l->(l++[y]).Nodup:=fun {l y} h1 h2=>by
   rw[List.nodup_append]
   exact⟨h1,by simp,fun a ha b hb e=>by simp at hb;subst hb;subst e;exact h2 ha⟩
 cases D with
 | put x p k=>exact app nd (JZ ha (by simp[Deed.names]) rfl)
 | take x=>exact nd.sublist a5W
 | move x p=>exact nd
 | count x k=>exact nd
 | name x y=>exact app (nd.sublist a5W) fun q=>JZ ha (n:=y) (by simp[Deed.names]) rfl (yL.mp q).1
 | split x y p k=>exact app nd (JZ ha (n:=y) (by simp[Deed.names]) rfl)
 | join x y=>exact nd.sublist a5W
theorem OW (ns:List Str) (D:Deed):(BE ns D).length<=ns.length+1:=by
 cases D <;> simp only[BE,yY,yR,b0K]
 all_goals first | omega | exact zN (yJ _ _) (a8V _) | exact b1K (yJ _ _) 1
theorem LO {ts:List Th}{D:Deed}(h:goD ts D):((doT ts D).map (·.1)).Nodup/\(doT ts D).length < 64:=by
 obtain⟨⟨nd,hl⟩,hr,ha⟩:=h
 have e:=LN hr ha
 refine⟨by rw[e];exact SX nd ha,?_⟩
 have h1:=OW (ts.map (·.1)) D
 have h2:=congrArg b6J e
 simp only[zX] at h1 h2
 omega
end DL
namespace DL
open PySem PySem.Spec L2
theorem ID (ts:List Th) (x:Str) (p c:Int) (n:Str):AE (EY ts x p c) n=if n=x then some (p,c) else AE ts n:=by
 by_cases h:x∈ts.map (·.1)
 · rw[VH h]
   induction ts with
   | nil=>simp at h
   | cons t r ih=>
     rw[zI]
     by_cases e:t.1=x
     · rw[if_pos e]
       unfold AE
       by_cases en:n=x
       · subst en;rw[if_pos e,if_pos rfl]
       · have e1:¬t.1=n:=fun q=>en (q.symm.trans e)
         rw[if_neg e1,if_neg en,if_neg e1]
         by_cases hr:x∈r.map (·.1)
         · rw[ih hr,if_neg en]
         · have hm:(r.map fun t=>if t.1=x then (t.1,p,c) else t)=r:=by
             conv=>rhs;rw[← b6Z r]
             apply yM
             intro u hu
             rw[if_neg fun q=>hr (by rw[← q];exact zL.mpr ⟨u,hu,rfl⟩)];rfl
           rw[hm]
     · rw[if_neg e]
       have hr:x∈r.map (·.1):=by
         rw[zI,yX] at h
         exact h.resolve_left fun q=>e q.symm
       unfold AE
       by_cases e1:t.1=n
       · rw[if_pos e1,if_pos e1,if_neg fun q=>e (e1.trans q)]
       · rw[if_neg e1,if_neg e1,ih hr]
 · rw[KD h]
   have:∀ts:List Th,x∉ts.map (·.1)->AE (ts++[(x,p,c)]) n=if n=x then some (p,c) else AE ts n:=by
     intro ts
     induction ts with
     | nil=>
       intro _
       show(if x=n then _ else _)=_
       by_cases e:n=x
       · rw[if_pos e,if_pos e.symm]
       · rw[if_neg e,if_neg fun q=>e q.symm]
     | cons t r ih=>
       intro hx
       rw[zI,yX] at hx
       rw[List.cons_append]
       unfold AE
       by_cases e1:t.1=n
       · rw[if_pos e1,if_pos e1,if_neg fun q=>hx (.inl (e1.trans q).symm)]
       · rw[if_neg e1,if_neg e1,ih fun q=>hx (.inr q)]
   exact this ts h
theorem LP (ts:List Th) (x n:Str):AE (E8 ts x) n=if n=x then none else AE ts n:=by
 induction ts with
 | nil=>show none=_;split <;> rfl
 | cons t r ih=>
   unfold E8 at ih ⊢
   rw[a6W]
   by_cases e:t.1=x
   · rw[if_neg (by simp[e]),ih]
     by_cases en:n=x
     · rw[if_pos en,if_pos en]
     · rw[if_neg en,if_neg en]
       conv=>rhs;unfold AE
       rw[if_neg fun q=>en (q.symm.trans e)]
   · rw[if_pos (by simpa using e)]
     unfold AE
     rw[ih]
     by_cases e1:t.1=n
     · rw[if_pos e1,if_pos e1,if_neg fun q=>e (e1.trans q)]
     · rw[if_neg e1,if_neg e1]
theorem OX (ts:List Th) (x:Str) (k:Int) (n:Str):AE (GI ts x k) n=if n=x then (AE ts x).map fun v=>(v.1,v.2+k) else AE ts n:=by
 unfold GI
 cases h:AE ts x with
 | none=>
   by_cases e:n=x
   · subst e;rw[if_pos rfl,h];rfl
   · rw[if_neg e]
 | some v=>rw[ID];rfl
theorem KG {ts:List Th}(nd:(ts.map (·.1)).Nodup) {t:Th}:t∈ts↔AE ts t.1=some t.2:=⟨fun h=>CS nd h,fun h=>D6 h⟩
theorem RF {as bs:List Th}(n1:(as.map (·.1)).Nodup) (p:as.Perm bs) (n:Str):AE as n=AE bs n:=by
 have n2:(bs.map (·.1)).Nodup:=(p.map (·.1)).nodup_iff.mp n1
 cases h:AE as n with
 | none=>
   cases h2:AE bs n with
   | none=>rfl
   | some v=>exact absurd (zL.mpr ⟨_,p.mem_iff.mpr (D6 h2),rfl⟩) (D7.mp h)
 | some v=>exact((KG n2 (t:=(n,v))).mp (p.mem_iff.mp (D6 h))).symm
theorem bT {as bs:List Th}(n1:(as.map (·.1)).Nodup) (n2:(bs.map (·.1)).Nodup) (h:∀n,AE as n=AE bs n):as.Perm bs:=by
 have nd:∀{l:List Th},(l.map (·.1)).Nodup->l.Nodup:=fun {l} h=>by
   unfold List.Nodup at h ⊢
   rw[a4Z] at h
   exact h.imp fun {a b} q e=>q (by rw[e])
 rw[List.perm_ext_iff_of_nodup (nd n1) (nd n2)]
 intro t
 rw[KG n1,KG n2,h]
theorem RG {ts w:List Th}(nd:(ts.map (·.1)).Nodup) (hw:Ris (w.map (·.1))) (h:∀n,AE ts n=AE w n):B0 ts=w:=
 (R9 (bT hw.nodup nd fun n=>(h n).symm) hw).symm
theorem VI {ts:List Th}(nd:(ts.map (·.1)).Nodup) (n:Str):AE (B0 ts) n=AE ts n:=
 RF (((B3 ts).map (·.1)).nodup_iff.mpr nd) (B3 ts) n
def E9 (w:List Th):Prop:=Ris (w.map (·.1))/\∀t∈w,AM t.1/\0<=t.2.1/\t.2.1<=999
theorem IZ {w:List Th}(h:E9 w) {x:Str}{v:Int×Int}(e:AE w x=some v):AM x/\0<=v.1/\v.1<=999:=h.2 _ (D6 e)
theorem CU {ts:List Th}{D:Deed}(hr:D.real) (ha:B9 (ts.map (·.1)) D=none) (n:Str) :
   AE (doT ts D) n=match D with
     | .put x p k=>if n=x then some (p,k) else AE ts n
     | .take x=>if n=x then none else AE ts n
     | .move x p=>if n=x then (AE ts x).map fun v=>(p,v.2) else AE ts n
     | .count x k=>if n=x then (AE ts x).map fun v=>(v.1,v.2+k) else AE ts n
     | .name x y=>if n=y then AE ts x else if n=x then none else AE ts n
     | .split x y p k=>if n=y then some (p,k) else if n=x then (AE ts x).map fun v=>(v.1,v.2 + -k) else AE ts n
     | .join x y=>if n=y then none else if n=x then (AE ts x).bind fun v=>(AE ts y).map fun u=>(v.1,v.2+u.2) else AE ts n:=by
 cases D with
 | put x p k=>exact ID _ _ _ _ _
 | take x=>exact LP _ _ _
 | move x p=>
   obtain⟨v,hv⟩:=AT (KF ha (n:=x) (by simp[Deed.names]) (by simp[Deed.made]))
   simp only[doT,hv]
   exact ID _ _ _ _ _
 | count x k=>exact OX _ _ _ _
 | name x y=>
   obtain⟨v,hv⟩:=AT (KF ha (n:=x) (by simp[Deed.names]) (by simp[Deed.made];exact fun e=>hr.2.1 e.symm))
   simp only[doT,hv]
   rw[ID,LP]
 | split x y p k=>
   show AE (EY (GI ts x (-k)) y p k) n=_
   rw[ID,OX]
 | join x y=>
   obtain⟨v,hv⟩:=AT (KF ha (n:=x) (by simp[Deed.names]) (by simp[Deed.made]))
   obtain⟨u,hu⟩:=AT (KF ha (n:=y) (by simp[Deed.names]) (by simp[Deed.made]))
   simp only[doT,hu]
   rw[LP,OX,hv];rfl
theorem here {w:List Th}{D:Deed}(h:goD w D) {n:Str}(hn:n∈D.names) (hm:D.made≠some n):∃v,AE w n=some v:=AT (KF h.2.2 hn hm)
theorem gone {w:List Th}{D:Deed}(h:goD w D) {n:Str}(hn:n∈D.names) (hm:D.made=some n):AE w n=none:=D7.mpr (JZ h.2.2 hn hm)
theorem BW {ns:List Str}{D:Deed}(h:∀n∈D.names,(n∈ns)↔¬D.made=some n):B9 ns D=none:=by
 unfold B9
 rw[List.find?_eq_none]
 intro n hn
 have:=h n hn
 by_cases h1:n∈ns <;> by_cases h2:D.made=some n <;> simp_all
theorem h9 {ts:List Th}{n:Str}:n∈ts.map (·.1)↔(AE ts n).isSome=true:=by rw[GH];simp
theorem hU {w:List Th}{D:Deed}(hw:E9 w) (hg:goD w D) (hl:w.length < 60) :
   goD (B0 (doT w D)) (BG w D)/\B0 (doT (B0 (doT w D)) (BG w D))=w/\BG (B0 (doT w D)) (BG w D)=D/\E9 (B0 (doT w D))/\(B0 (doT w D)).length<=w.length+1:=by
 have hr:=hg.2.1
 have ha:=hg.2.2
 obtain⟨nd,_⟩:=LO hg
 have L:∀n,AE (B0 (doT w D)) n=AE (doT w D) n:=VI nd
 have ndr:((B0 (doT w D)).map (·.1)).Nodup:=((B3 _).map (·.1)).nodup_iff.mpr nd
 have hlen:(B0 (doT w D)).length<=w.length+1:=by
   rw[(B3 _).length_eq]
   have h1:=OW (w.map (·.1)) D
   have h2:=congrArg b6J (LN hr ha)
   simp only[zX] at h1 h2
   omega
 have fw:E9 (B0 (doT w D)):=by
   refine⟨HZ nd,fun t ht=>?_⟩
   have hk:AE (doT w D) t.1=some t.2:=by rw[← L];exact(KG ndr).mp ht
   rw[CU hr ha] at hk
   have old:∀{n:Str}{v:Int×Int},AE w n=some v->AM n/\0<=v.1/\v.1<=999:=fun e=>IZ hw e
   cases D with
   | put x p k=>
     dsimp only at hk
     split at hk
     · rename_i e;have hk:=Option.some.inj hk;rw[e,← hk];exact⟨hr.1 x (by simp[Deed.names]),hr.2.2.1,hr.2.2.2⟩
     · exact old hk
   | take x=>
     dsimp only at hk
     split at hk
     · cases hk
     · exact old hk
   | move x p=>
     dsimp only at hk
     split at hk
     · rename_i e
       obtain⟨v,hv,e2⟩:=Option.map_eq_some_iff.mp hk
       rw[e,← e2];exact⟨(old hv).1,hr.2.2.1,hr.2.2.2⟩
     · exact old hk
   | count x k=>
     dsimp only at hk
     split at hk
     · rename_i e
       obtain⟨v,hv,e2⟩:=Option.map_eq_some_iff.mp hk
       rw[e,← e2];exact⟨(old hv).1,(old hv).2⟩
     · exact old hk
   | name x y=>
     dsimp only at hk
     split at hk
     · rename_i e;rw[e];exact⟨hr.1 y (by simp[Deed.names]),(old hk).2⟩
     · split at hk
       · cases hk
       · exact old hk
   | split x y p k=>
     dsimp only at hk
     split at hk
     · rename_i e;have hk:=Option.some.inj hk;rw[e,← hk];exact⟨hr.1 y (by simp[Deed.names]),hr.2.2.1,hr.2.2.2⟩
     · split at hk
       · rename_i e
         obtain⟨v,hv,e2⟩:=Option.map_eq_some_iff.mp hk
         rw[e,← e2];exact⟨(old hv).1,(old hv).2⟩
       · exact old hk
   | join x y=>
     dsimp only at hk
     split at hk
     · cases hk
     · split at hk
       · rename_i e
         obtain⟨v,hv,e2⟩:=Option.bind_eq_some_iff.mp hk
         obtain⟨u,hu,e3⟩:=Option.map_eq_some_iff.mp e2
         rw[e,← e3];exact⟨(old hv).1,(old hv).2⟩
       · exact old hk
 have core:goD (B0 (doT w D)) (BG w D)/\(∀n,AE (doT (B0 (doT w D)) (BG w D)) n=AE w n)/\BG (B0 (doT w D)) (BG w D)=D:=by
   have can:RB (B0 (doT w D)):=⟨ndr,by omega⟩
   have LD:∀n,AE (B0 (doT w D)) n=_:=fun n=>(L n).trans (CU hr ha n)
   have mk:∀B:Deed,B.real->(∀n∈B.names,((AE (B0 (doT w D)) n).isSome=true)↔¬B.made=some n)->goD (B0 (doT w D)) B:=fun B h1 h2=>⟨can,h1,BW fun n hn=>h9.trans (h2 n hn)⟩
   cases D with
   | put x p k=>
     have hx:=gone hg (n:=x) (by simp[Deed.names]) rfl
     have g:goD (B0 (doT w (.put x p k))) (.take x):=mk (.take x) ⟨fun n hn=>hr.1 n hn,trivial,trivial⟩ fun n hn=>by
       simp only[Deed.names,a9W] at hn;subst hn;rw[LD];simp[Deed.made]
     refine⟨g,fun n=>?_,?_⟩
     · show AE (doT (B0 (doT w (.put x p k))) (.take x)) n=_
       rw[CU g.2.1 g.2.2]
       dsimp only
       rw[LD]
       dsimp only
       by_cases e:n=x
       · rw[if_pos e,e,hx]
       · rw[if_neg e,if_neg e]
     · have lx:AE (B0 (doT w (.put x p k))) x=some (p,k):=by rw[LD];simp
       simp only[BG,lx]
   | take x=>
     obtain⟨v,hv⟩:=here hg (n:=x) (by simp[Deed.names]) (by simp[Deed.made])
     have eb:BG w (.take x) = .put x v.1 v.2:=by simp only[BG,hv]
     rw[eb]
     have g:goD (B0 (doT w (.take x))) (.put x v.1 v.2):=mk (.put x v.1 v.2) ⟨fun n hn=>hr.1 n hn,trivial,(IZ hw hv).2⟩ fun n hn=>by
       simp only[Deed.names,a9W] at hn;subst hn;rw[LD];simp[Deed.made]
     refine⟨g,fun n=>?_,rfl⟩
     rw[CU g.2.1 g.2.2]
     dsimp only
     rw[LD]
     dsimp only
     by_cases e:n=x
     · rw[if_pos e,e,hv]
     · rw[if_neg e,if_neg e]
   | move x p=>
     obtain⟨v,hv⟩:=here hg (n:=x) (by simp[Deed.names]) (by simp[Deed.made])
     have eb:BG w (.move x p) = .move x v.1:=by simp only[BG,hv]
     rw[eb]
     have lx:AE (B0 (doT w (.move x p))) x=some (p,v.2):=by rw[LD];simp[hv]
     have g:goD (B0 (doT w (.move x p))) (.move x v.1):=mk (.move x v.1) ⟨fun n hn=>hr.1 n hn,trivial,(IZ hw hv).2⟩ fun n hn=>by
       simp only[Deed.names,a9W] at hn;subst hn;rw[lx];simp[Deed.made]
     refine⟨g,fun n=>?_,by simp only[BG,lx]⟩
     rw[CU g.2.1 g.2.2]
     dsimp only
     rw[lx]
     by_cases e:n=x
     · rw[if_pos e,e,hv];rfl
     · rw[if_neg e,LD]
       dsimp only
       rw[if_neg e]
   | count x k=>
     obtain⟨v,hv⟩:=here hg (n:=x) (by simp[Deed.names]) (by simp[Deed.made])
     have eb:BG w (.count x k) = .count x (-k):=rfl
     rw[eb]
     have lx:AE (B0 (doT w (.count x k))) x=some (v.1,v.2+k):=by rw[LD];simp[hv]
     have g:goD (B0 (doT w (.count x k))) (.count x (-k)):=mk (.count x (-k)) ⟨fun n hn=>hr.1 n hn,trivial,trivial⟩ fun n hn=>by
       simp only[Deed.names,a9W] at hn;subst hn;rw[lx];simp[Deed.made]
     refine⟨g,fun n=>?_,by simp only[BG,Int.neg_neg]⟩
     rw[CU g.2.1 g.2.2]
     dsimp only
     rw[lx]
     by_cases e:n=x
     · rw[if_pos e,e,hv]
       show some (v.1,v.2+k + -k)=some v
       rw[Int.add_neg_cancel_right]
     · rw[if_neg e,LD]
       dsimp only
       rw[if_neg e]
   | name x y=>
     have hxy:x≠y:=hr.2.1
     obtain⟨v,hv⟩:=here hg (n:=x) (by simp[Deed.names]) (by simp[Deed.made];exact fun e=>hxy e.symm)
     have hy:=gone hg (n:=y) (by simp[Deed.names]) rfl
     have eb:BG w (.name x y) = .name y x:=rfl
     rw[eb]
     have ly:AE (B0 (doT w (.name x y))) y=some v:=by rw[LD];simp[hv]
     have lx:AE (B0 (doT w (.name x y))) x=none:=by rw[LD];simp[hxy]
     have g:goD (B0 (doT w (.name x y))) (.name y x):=mk (.name y x) ⟨fun n hn=>hr.1 n (by simp[Deed.names] at hn ⊢;exact hn.symm),fun e=>hxy e.symm,trivial⟩ fun n hn=>by
       simp only[Deed.names,yX,xX,or_false] at hn
       rcases hn with rfl | rfl
       · rw[ly];simp[Deed.made];exact hxy
       · rw[lx];simp[Deed.made]
     refine⟨g,fun n=>?_,rfl⟩
     rw[CU g.2.1 g.2.2]
     dsimp only
     rw[ly]
     by_cases e:n=x
     · rw[if_pos e,e,hv]
     · rw[if_neg e]
       by_cases e2:n=y
       · rw[if_pos e2,e2,hy]
       · rw[if_neg e2,LD]
         dsimp only
         rw[if_neg e2,if_neg e]
   | split x y p k=>
     have hxy:x≠y:=hr.2.1
     obtain⟨v,hv⟩:=here hg (n:=x) (by simp[Deed.names]) (by simp[Deed.made];exact fun e=>hxy e.symm)
     have hy:=gone hg (n:=y) (by simp[Deed.names]) rfl
     have eb:BG w (.split x y p k) = .join x y:=rfl
     rw[eb]
     have ly:AE (B0 (doT w (.split x y p k))) y=some (p,k):=by rw[LD];simp
     have lx:AE (B0 (doT w (.split x y p k))) x=some (v.1,v.2 + -k):=by rw[LD];simp[hxy,hv]
     have g:goD (B0 (doT w (.split x y p k))) (.join x y):=mk (.join x y) ⟨fun n hn=>hr.1 n hn,hxy,trivial⟩ fun n hn=>by
       simp only[Deed.names,yX,xX,or_false] at hn
       rcases hn with rfl | rfl
       · rw[lx];simp[Deed.made]
       · rw[ly];simp[Deed.made]
     refine⟨g,fun n=>?_,by simp only[BG,ly]⟩
     rw[CU g.2.1 g.2.2]
     dsimp only
     rw[lx,ly]
     by_cases e:n=y
     · rw[if_pos e,e,hy]
     · rw[if_neg e]
       by_cases e2:n=x
       · rw[if_pos e2,e2,hv]
         show some (v.1,v.2 + -k+k)=some v
         rw[Int.neg_add_cancel_right]
       · rw[if_neg e2,LD]
         dsimp only
         rw[if_neg e,if_neg e2]
   | join x y=>
     have hxy:x≠y:=hr.2.1
     obtain⟨v,hv⟩:=here hg (n:=x) (by simp[Deed.names]) (by simp[Deed.made])
     obtain⟨u,hu⟩:=here hg (n:=y) (by simp[Deed.names]) (by simp[Deed.made])
     have eb:BG w (.join x y) = .split x y u.1 u.2:=by simp only[BG,hu]
     rw[eb]
     have ly:AE (B0 (doT w (.join x y))) y=none:=by rw[LD];simp
     have lx:AE (B0 (doT w (.join x y))) x=some (v.1,v.2+u.2):=by rw[LD];simp[hxy,hv,hu]
     have g:goD (B0 (doT w (.join x y))) (.split x y u.1 u.2):=mk (.split x y u.1 u.2) ⟨fun n hn=>hr.1 n hn,hxy,(IZ hw hu).2⟩ fun n hn=>by
       simp only[Deed.names,yX,xX,or_false] at hn
       rcases hn with rfl | rfl
       · rw[lx];simp[Deed.made];exact fun e=>hxy e.symm
       · rw[ly];simp[Deed.made]
     refine⟨g,fun n=>?_,rfl⟩
     rw[CU g.2.1 g.2.2]
     dsimp only
     rw[lx]
     by_cases e:n=y
     · rw[if_pos e,e,hu]
     · rw[if_neg e]
       by_cases e2:n=x
       · rw[if_pos e2,e2,hv]
         show some (v.1,v.2+u.2 + -u.2)=some v
         rw[Int.add_neg_cancel_right]
       · rw[if_neg e2,LD]
         dsimp only
         rw[if_neg e,if_neg e2]
 obtain⟨c1,c2,c3⟩:=core
 exact⟨c1,RG (LO c1).1 hw.1 c2,c3,fw,hlen⟩
end DL
namespace L2
open PySem PySem.Spec PyProof.Rows
theorem MF (ns:List Int):∀k,k<=ns.length->preSum (fun i=>ns.getD i 0) k=(ns.take k).sum
 | 0,_=>by simp[preSum]
 | k+1,h=>by
   show preSum _ k+ns.getD k 0=_
   have e:ns.take (k+1)=ns.take k++[ns.getD k 0]:=by
     rw[b0V,yU,zV (by omega)];rfl
   rw[MF ns k (by omega),e,List.sum_append]
   simp
def rW (K:Frg):List V->Hp->VK->Prop:=fun xs H Q=>∃(p:Addr) (ns:List Int),xs=[.ref p]/\SqL K H p (ns.map V.int)/\Q (.int ns.sum) H
theorem OY:∀{ns:List Int}{its:List Value},Vals (ns.map V.int) its->its.length=ns.length/\∀(i:Nat) v,its[i]?=some v->∃t,v=b5W (ns.getD i 0) t
 | [],_,.nil=>⟨rfl,fun i v h=>by simp at h⟩
 | n::ns,_,.cons r t=>by
   obtain⟨h1,h2⟩:=OY t
   refine⟨by simp[h1],fun i v h=>?_⟩
   cases i with
   | zero=>simp at h;subst h;exact r
   | succ i=>exact h2 i v (by simpa using h)
theorem hW {X:Cx}(hc:X.calm=true):B2 X (.builtin "sum") (rW X.K):=by
 intro pins s σ H xs us Q I r h
 obtain⟨p,ns,rfl,hp,q⟩:=h
 obtain⟨u,rfl,ru⟩:=DN r
 cases ru
 obtain⟨its,rv,pl,_⟩:=I.list hp
 obtain⟨hl,hv⟩:=OY rv
 have hlist:=pl.isList
 have hlt:p < s.heap.objs.size:=by obtain⟨_,e,_⟩:=hlist;exact zM e
 refine call_sum_walkAnyS ?_
 refine wpAny_pyIter_list hlist ⟨s.heap.objs.size,_,_,_,its.toArray.size,fun i v=>its.toArray[i]?=some v,_,fun i=>ns.getD i 0,rfl,(Walks.list (A:=X.A.in1) (I.ok.hd hc) _ _ (zC hlt) its.toArray).toS,⟨⟨_,yZ _ rfl,rfl,rfl⟩,hlist.push _⟩,fun b hb=>?_,fun i v e=>hv i v (by simpa using e),fun s' t' hm=>?_⟩
 · show b < (s.heap.push _).objs.size
   rw[a5J]
   rcases yX.mp hb with e | hb
   · rw[e];exact Nat.lt_succ_self _
   · rw[List.mem_singleton.mp hb];exact b1Q hlt
 · have hk:∀b o,s.heap.get? b=some o->s'.heap.get? b=some o:=fun b o e=>
     hm.heap b o (fun hI=>absurd (zM e) (by rw[List.mem_singleton.mp hI];exact yF _)) (zW _ e)
   rw[Moved.eq_with hm]
   have es:preSum (fun i=>ns.getD i 0) its.toArray.size=ns.sum:=by
     rw[zJ,hl,MF ns _ (zR _),a3W]
   rw[es]
   exact⟨.int ns.sum,H,I.kept (h':=s'.heap) (t':=s'.toks) hk,⟨t',rfl⟩,q⟩
end L2
namespace DL
open PySem PySem.Spec L2
theorem vY {X:Cx}{K:Frg}(h:X.K=K) (hc:X.calm=true):B2 X (.builtin "sum") (rW K):=h▸hW hc
section
variable {K:Frg}{M:Own}{Q:DS->Own->Prop}{H:Hp}
theorem VJ {W:Addr->Prop}:∀{ns:List Int}{vs:List V},DVs K H W (ns.map b4X) vs->vs=ns.map V.int
 | [],vs,h=>by unfold DVs at h;subst h;rfl
 | n::ns,vs,h=>by
   rw[zI] at h
   unfold DVs at h
   obtain⟨v,r,rfl,h1,h2⟩:=h
   unfold DV at h1
   rw[h1,VJ h2];rfl
theorem rX {ns:List Int}(q:Q (.d (.int ns.sum)) M):DR K (rW K) [.d (.list (ns.map .int))] M Q:=fun H vs QQ oa s k=>by
 obtain⟨v,r,rfl,h1,h2⟩:=s
 cases h2
 unfold SI DV at h1
 obtain⟨a,vs,rfl,hl,hd⟩:=h1
 have e:=VJ hd
 subst e
 exact⟨a,ns,rfl,hl.sq,k _ H (.d (.int ns.sum)) M oa BP Step.refl q⟩
end
end DL
namespace DL
open PySem PySem.Spec L2
def GZ (w:List Th) (D:Deed):List Th:=B0 (doT w D)
def JA:List Th->List Deed->Prop
 | _,[]=>True
 | w,D::r=>goD w D/\JA (GZ w D) r
def D9:List Th->List Deed->List Th
 | w,[]=>w
 | w,D::r=>D9 (GZ w D) r
theorem J0:∀{Ds:List Deed}{w:List Th}{D:Deed},JA w Ds->goD (D9 w Ds) D->JA w (Ds++[D])
 | [],_,_,_,h=>⟨h,trivial⟩
 | _::_,_,_,h,g=>⟨h.1,J0 h.2 g⟩
theorem FV:∀{Ds:List Deed}{w:List Th}{D:Deed},D9 w (Ds++[D])=GZ (D9 w Ds) D
 | [],_,_=>rfl
 | _::Ds,w,D=>FV (Ds:=Ds)
def CA (sp:List Str) (D:Deed):List Str:=match D.made with | some _=>sp.drop 1 | none=>sp
theorem OZ {as bs:List Str}(p:as.Perm bs) (D:Deed):B9 as D=B9 bs D:=by
 unfold B9
 congr 1
 funext n
 rw[show decide (n∈as)=decide (n∈bs) from by rw[a8Z];simp[p.mem_iff]]
theorem VL {as bs:List Str}(p:as.Perm bs) (D:Deed):(BE as D).Perm (BE bs D):=by
 cases D with
 | put x q k=>exact p.append_right _
 | take x=>exact p.filter _
 | move x q=>exact p
 | count x k=>exact p
 | name x y=>exact(p.filter _).append_right _
 | split x y q k=>exact p.append_right _
 | join x y=>exact p.filter _
theorem P0 {w:List Th}{D:Deed}(h:goD w D):((GZ w D).map (·.1)).Perm (BE (w.map (·.1)) D):=by
 rw[← LN h.2.1 h.2.2]
 exact(B3 _).map _
theorem J1 {so sp:List Str}{D:Deed}(h:∀n,D.made=some n->sp.head?=some n):(BE so D++CA sp D).Sublist (so++sp):=by
 have hd:∀n,D.made=some n->sp=n::sp.drop 1:=fun n e=>by
   have:=h n e
   cases sp with
   | nil=>simp at this
   | cons a r=>simp at this;subst this;rfl
 cases D with
 | put x p k=>
   show((so++[x])++sp.drop 1).Sublist _
   conv=>rhs;rw[hd x rfl]
   rw[b9Z]
   exact a3K _
 | take x=>exact(a5W).append (a3K _)
 | move x p=>exact a3K _
 | count x k=>exact a3K _
 | name x y=>
   show(((so.filter fun n=>decide (n≠x))++[y])++sp.drop 1).Sublist _
   conv=>rhs;rw[hd y rfl]
   rw[b9Z]
   exact List.filter_sublist.append (a3K _)
 | split x y p k=>
   show((so++[y])++sp.drop 1).Sublist _
   conv=>rhs;rw[hd y rfl]
   rw[b9Z]
   exact a3K _
 | join x y=>exact(a5W).append (a3K _)
def namesOK (ys:List Str):Prop:=(∀z∈ys,AM z)/\ys.Nodup/\ys.length<=26
theorem namesOK.sub {as bs:List Str}(h:namesOK bs) (s:as.Sublist bs):namesOK as:=⟨fun z hz=>h.1 z (s.subset hz),h.2.1.sublist s,zN s.length_le h.2.2⟩
def AX (ys:List Str):PyData:=.list (ys.map .str)
def DW:FSp:=⟨fun xs M=>∃(p:Addr) (o:MO) (so sp:List Str),xs=[.loc p,.d (AX so),.d (AX sp)]/\M p=some o/\DO o/\namesOK (so++sp)/\(so≠[]∨sp≠[]),
 fun xs M y M'=>∀(p:Addr) (so sp:List Str),xs=[.loc p,.d (AX so),.d (AX sp)]->∃(D:Deed) (o:MO),y = .d D.d/\D.real/\B9 so D=none/\(∀n,D.made=some n->sp.head?=some n)/\DO o/\M'=M.put p o⟩
theorem P1 {p:Addr}{o:MO}{so sp:List Str}{M:Own}{Q:DS->Own->Prop}(m:M p=some o) (ho:DO o) (hn:namesOK (so++sp)) (he:so≠[]∨sp≠[]) (q:∀(D:Deed) (o':MO),D.real->B9 so D=none->(∀n,D.made=some n->sp.head?=some n)->DO o'->Q (.d D.d) (M.put p o')) :
   [DS.loc p,.d (AX so),.d (AX sp)].length=3/\DW.pre [.loc p,.d (AX so),.d (AX sp)] M/\∀x M',DW.post [.loc p,.d (AX so),.d (AX sp)] M x M'->Q x M':=
 ⟨rfl,⟨p,o,so,sp,rfl,m,ho,hn,he⟩,fun x M' h=>by obtain⟨D,o',rfl,h1,h2,h3,h4,rfl⟩:=h p so sp rfl;exact q D o' h1 h2 h3 h4⟩
def CV:FSp:=⟨fun xs M=>∃(D:Deed) (so sp:List Str),xs=[.d D.d,.d (AX so),.d (AX sp)]/\D.real/\namesOK (so++sp)/\B9 so D=none,
 fun xs M y M'=>∀(D:Deed) (so sp:List Str),xs=[.d D.d,.d (AX so),.d (AX sp)]->y = .d (.tuple [AX (BE so D),AX (CA sp D)])/\M'=M⟩
theorem P2 {D:Deed}{so sp:List Str}{M:Own}{Q:DS->Own->Prop}(hr:D.real) (hn:namesOK (so++sp)) (ha:B9 so D=none) (q:Q (.d (.tuple [AX (BE so D),AX (CA sp D)])) M) :
   [DS.d D.d,.d (AX so),.d (AX sp)].length=3/\CV.pre [.d D.d,.d (AX so),.d (AX sp)] M/\∀x M',CV.post [.d D.d,.d (AX so),.d (AX sp)] M x M'->Q x M':=
 ⟨rfl,⟨D,so,sp,rfl,hr,hn,ha⟩,fun x M' h=>by obtain⟨rfl,rfl⟩:=h D so sp rfl;exact q⟩
def CW:FSp:=⟨fun xs M=>∃(p:Addr) (o:MO) (ys:List Str) (n:Nat),xs=[.loc p,.d (AX ys),.d (.int n)]/\M p=some o/\DO o/\namesOK ys/\n<=ys.length,
 fun xs M y M'=>∀(p:Addr) (ys:List Str) (n:Nat),xs=[.loc p,.d (AX ys),.d (.int n)]->∃(w:List Th) (o:MO),y = .d (wD w)/\E9 w/\(w.map (·.1)).Perm (ys.take n)/\DO o/\M'=M.put p o⟩
theorem XU {p:Addr}{o:MO}{ys:List Str}{n:Nat}{M:Own}{Q:DS->Own->Prop}(m:M p=some o) (ho:DO o) (hy:namesOK ys) (hn:n<=ys.length) (q:∀(w:List Th) (o':MO),E9 w->(w.map (·.1)).Perm (ys.take n)->DO o'->Q (.d (wD w)) (M.put p o')) :
   [DS.loc p,.d (AX ys),.d (.int n)].length=3/\CW.pre [.loc p,.d (AX ys),.d (.int n)] M/\∀x M',CW.post [.loc p,.d (AX ys),.d (.int n)] M x M'->Q x M':=
 ⟨rfl,⟨p,o,ys,n,rfl,m,ho,hy,hn⟩,fun x M' h=>by obtain⟨w,o',rfl,h1,h2,h3,rfl⟩:=h p ys n rfl;exact q w o' h1 h2 h3⟩
def BN (l:Str×Deed):PyData:=.tuple [.str l.1,l.2.d]
def AL (w:List Th) (ls:List (Str×Deed)):PyData:=.tuple [wD w,.tuple (ls.map BN)]
theorem LQ {w:List Th}{D:Deed}(hw:E9 w) (hg:goD w D) (hl:w.length < 60):E9 (GZ w D)/\(GZ w D).length<=w.length+1:=by
 obtain⟨_,_,_,h1,h2⟩:=hU hw hg hl
 exact⟨h1,h2⟩
def GK:List Str:=["put", "move", "count", "name", "split", "join", "take", "count", "split"]
theorem bU:∀k∈GK,b6V k=true:=by decide +kernel
theorem FW {k:Str}(h:k∈GK):zH (.str k)=true:=BY (bU k h) (by simp[a4W])
theorem BZ {ys:List Str}(h:∀z∈ys,AM z):zH (AX ys)=true:=VB fun z hz=>EL (h z hz)
theorem BX (ys:List Str):a0Z (AX ys) (.list [])=ys.isEmpty:=MU ys
theorem DB {ys:List Str}{y:Str}:((ys.map a1X).filter fun d=>!a0Z d (.str y)).map id=(ys.filter fun z=>decide (z≠y)).map .str:=by
 rw[b6Z,xU]
 congr 1
 apply List.filter_congr
 intro z _
 show(!a0Z (.str z) (.str y))=_
 rw[BK]
 by_cases e:z=y <;> simp[e]
theorem IE {as bs:List Str}(h:AX as=AX bs):as=bs:=UO (by unfold AX at h;exact PyData.list.inj h)
theorem F6 {p p':Addr}{so so' sp sp':List Str}(e:[DS.loc p,.d (AX so),.d (AX sp)]=[.loc p',.d (AX so'),.d (AX sp')]):p=p'/\so=so'/\sp=sp':=by
 simp only[List.cons.injEq,DS.loc.injEq,DS.d.injEq,and_true] at e
 exact⟨e.1,IE e.2.1,IE e.2.2⟩
theorem GL {D D':Deed}{so so' sp sp':List Str}(e:[DS.d D.d,.d (AX so),.d (AX sp)]=[.d D'.d,.d (AX so'),.d (AX sp')]):D=D'/\so=so'/\sp=sp':=by
 simp only[List.cons.injEq,DS.d.injEq,and_true] at e
 exact⟨EO e.1,IE e.2.1,IE e.2.2⟩
theorem ZN {ys:List Str}(h:∀z∈ys,AM z):(ys.filter fun z=>decide (z≠a0Q ""))=ys:=List.filter_eq_self.mpr fun z hz=>by
 have:=(h z hz).1
 simp
 intro e
 rw[e] at this
 exact absurd this (by decide +kernel)
def wB2 (t:Th):Str×List PyData:=(t.1,[.int t.2.1,.int t.2.2])
def unB (u:Str×List PyData):Th:=match u with | (a,[.int p,.int c])=>(a,p,c) | (a,_)=>(a,0,0)
theorem hX (w:List Th):(w.map wB2).map LJ=w.map thD:=by rw[zD];rfl
theorem i0 {ts:List (Str×List PyData)}{w:List Th}(h:ts.Perm (w.map wB2)):(ts.map unB).Perm w/\ts.map LJ=(ts.map unB).map thD/\(ts.map unB).map (·.1)=ts.map (·.1):=by
 have e:(w.map wB2).map unB=w:=by rw[zD];exact b6Z _
 refine⟨by have:=h.map unB;rw[e] at this;exact this,?_,?_⟩
 · rw[zD]
   apply yM
   intro u hu
   obtain⟨t,_,rfl⟩:=zL.mp (h.mem_iff.mp hu)
   rfl
 · rw[zD]
   apply yM
   intro u hu
   obtain⟨t,_,rfl⟩:=zL.mp (h.mem_iff.mp hu)
   rfl
theorem XV {ts:List (Str×List PyData)}(h:ts.Pairwise fun x y=>x.1.cps.toList < y.1.cps.toList):Ris (ts.map (·.1)):=by
 unfold Ris
 rw[a4Z]
 exact h.imp fun {a b} q=>by rw[← uE];exact decide_eq_true q
def wsF (w:List Th) (Ds:List Deed) (k:Nat):List Th:=D9 w (Ds.take k)
theorem ZO {w:List Th}{Ds:List Deed}{k:Nat}{D:Deed}(h:Ds[k]?=some D):wsF w Ds (k+1)=GZ (wsF w Ds k) D:=by
 unfold wsF
 rw[b0V,h]
 exact FV
theorem J2:∀{Ds:List Deed}{w:List Th}{k:Nat},JA w Ds->E9 w->w.length+Ds.length < 60->k<=Ds.length->E9 (wsF w Ds k)/\(wsF w Ds k).length<=w.length+k/\∀D,Ds[k]?=some D->goD (wsF w Ds k) D
 | [],w,k,_,hf,_,hk=>by
   have e:k=0:=by simpa using hk
   subst e
   exact⟨hf,zR _,fun D h=>by simp at h⟩
 | D::r,w,0,hb,hf,_,_=>⟨hf,zR _,fun D' h=>by simp at h;subst h;exact hb.1⟩
 | D::r,w,k+1,hb,hf,hl,hk=>by
   have hl':w.length+r.length+1 < 60:=by simpa [Nat.add_assoc] using hl
   obtain⟨f1,f2⟩:=LQ hf hb.1 (by omega)
   obtain⟨a,b,c⟩:=J2 (Ds:=r) (w:=GZ w D) (k:=k) hb.2 f1 (by omega) (by simpa using hk)
   have e:wsF w (D::r) (k+1)=wsF (GZ w D) r k:=rfl
   rw[e]
   exact⟨a,by omega,fun D' h=>c D' (by simpa using h)⟩
def bkF (w:List Th) (Ds:List Deed) (j:Nat):PyData:=match Ds[j]? with | some D=>(BG (wsF w Ds j) D).d | none=>.none
def bkL (w:List Th) (Ds:List Deed) (k:Nat):List PyData:=(a1V k).map (bkF w Ds)
theorem i3 {w:List Th}{Ds:List Deed}{k:Nat}:bkL w Ds (k+1)=bkL w Ds k++[bkF w Ds k]:=by
 unfold bkL;rw[List.range_succ,xI];rfl
theorem mL {w:List Th}{Ds:List Deed}{k:Nat}:(bkL w Ds k).length=k:=by simp[bkL]
theorem i4 {K:Frg}{M:Own}{Q:DS->Own->Prop}{a:Addr}{ds:List PyData}(m:M a=some (.l ds)) (q:Q (.d (.tuple ds)) M):DR K (NZ K) [.loc a] M Q:=fun H vs QQ oa s k=>by
 obtain⟨v,r,rfl,h1,h2⟩:=s
 cases h2
 unfold SI at h1
 subst h1
 obtain⟨vs,h0,hd⟩:=oa a _ m
 refine⟨a,vs,rfl,.inl ⟨SqL.of h0,fun p hp=>?_⟩⟩
 have g:Grow K M.W M.W H (upd H p (.tup vs)):=AW _ hp
 refine k _ _ (.d (.tuple ds)) M (oa.new hp) ?_ ⟨g⟩ q
 unfold SI DV
 exact⟨p,vs,rfl,.inl ⟨fun w=>w (oa.none hp),.inl AG⟩,hd.grow g⟩
theorem VM:∀z∈[a0Q "me", "you", "abcdefgh"],AM z:=by
 intro z hz
 simp only[yX,xX,or_false] at hz
 rcases hz with rfl | rfl | rfl <;> (refine⟨by decide +kernel,by decide +kernel,?_⟩;decide +kernel)
theorem bV:xJ 915965594177219015054603514932384110774149374281672134266497<=256:=by decide +kernel
theorem mM {c:Int}(h:xJ c<=2 ^ 21):IntMulOk c 915965594177219015054603514932384110774149374281672134266497:=PySem.IntMulOk.of_le h bV (by decide)
end DL
namespace L2
open PySem PySem.Spec PyProof.Rows PySem.W
section
variable {prog:Program}{w:World}{A:Around}{E:Value->Shared->Prop}{s:Shared}
theorem SY {d:Addr}{kvs:List (Key×Value)}{ss:List Int}{Q:Value->Shared->Prop}(hh:A.handled=none) (hd:(d==sysModules)=false) (dd:s.heap.DictOf (AH prog w) d kvs) (hk:kvs.map (·.1)=ss.map c0Q) (h64:ss.length < 64)
   (h:∀(h1 h':Heap) (tk:Nat) (out:List Value) (e:Nat) (ss':List Int),(∀b o,s.heap.get? b=some o->h1.get? b=some o)->(∀b o,h1.get? b=some o->h'.get? b=some o)->h'.get? h1.objs.size=some (seqObj "list" out.toArray e)->IntsAre out ss'->ss'.Perm ss->ss'.Pairwise (·<=·)->Q (.ref h1.objs.size) { s with heap:=h',toks:=tk }) :
   wpAny (model prog w) A (call (.builtin "sorted") [.ref d]) Q E s:=by
 refine b7W kind_sorted plain_sorted entry_sorted (args_sorted1 _) ?_
 obtain⟨ep,hat⟩:=dd.dictAt
 have hlen:kvs.length=ss.length:=by have:=congrArg b6J hk;simpa using this
 unfold Builtin.«sorted»;refine zZ (m:=checkCount "sorted" 1 1 _) (zY (zZ (kdu_collect (A:=A.in1) (kdl_dict (kvs:=kvs) (ep:=ep) hd) hh hat (by rw[hlen,sizeLine_eq];omega) fun h' tk acc hold hacc=>?_)))
 have hl:acc.toList.length=ss.length:=by rw[a4X,hacc.1,hlen]
 have hS:IntsAre acc.toList ss:=by
   have go:∀(vs:List Value) (zs:List Int),vs.length=zs.length->(∀(i:Nat) v x,vs[i]?=some v->zs[i]?=some x->∃t,v=b5W x t)->IntsAre vs zs:=by
     intro vs
     induction vs with
     | nil=>intro zs hz _;cases zs with
       | nil=>exact .nil
       | cons _ _=>simp at hz
     | cons v vs ih=>intro zs hz hv;cases zs with
       | nil=>simp at hz
       | cons x zs=>
         obtain⟨t,rfl⟩:=hv 0 v x rfl rfl
         exact .cons x t (ih zs (by simpa using hz) fun i v x e1 e2=>hv (i+1) v x (by simpa using e1) (by simpa using e2))
   refine go _ _ hl fun i v x e1 e2=>?_
   obtain⟨k,y,g1,g2⟩:=hacc.2 i v (by rw[← b0X];exact e1)
   have e3:(kvs.map (·.1))[i]?=some k:=by rw[zF,g1];rfl
   rw[hk,zF,e2] at e3
   cases e3
   have g2':K6 (.inl x) v=true:=g2
   rcases B1 g2' with ⟨i,t,e,e'⟩ | ⟨z,t,e,e'⟩
   · cases e;exact⟨t,e'⟩
   · cases e
 refine zZ (wpAny_newList ?_ (by rw[hl,sizeLine_eq];omega))
 have hoL:(h'.push (seqObj "list" acc.toList.toArray 0)).get? h'.objs.size=some (seqObj "list" acc.toList.toArray 0):=yZ _ rfl
 show wpAny _ _ _ _ _ { s with heap:=h'.push (seqObj "list" acc.toList.toArray 0),toks:=tk }
 refine zZ (wpAny_holding (wpAny_call_entry (s:={ s with heap:=h'.push (seqObj "list" acc.toList.toArray 0),toks:=tk }) slot_list_sort ⟨_,hoL,rfl⟩ entry_list_sort (list_sort_tree hoL hS (by rw[hl];exact h64) fun out ns' a1 a2 a3=>⟨_,rfl,?_⟩) (args_list_sort _)))
 obtain⟨e,he⟩:=sortedHeap_at (out:=out) hoL
 refine zY ⟨_,rfl,h h' _ tk out.toList e ns' hold (fun b o q=>?_) (by rw[Array.toArray_toList];exact he) a1 a2 a3⟩
 have lt:b < h'.objs.size:=zM q
 rw[sortedHeap_old (zC lt) (by rw[size_push'];exact b1Q lt)]
 exact zW _ q
end
section
variable {X:Cx}
theorem i5:∀{vs:List Value}{ns:List Int},IntsAre vs ns->Vals (ns.map V.int) vs
 | _,_,.nil=>.nil
 | _,_,.cons n t r=>.cons ⟨t,rfl⟩ (i5 r)
theorem ZP:∀{ns:List Int}{vs:List Value},Vals (ns.map V.int) vs->IntsAre vs ns
 | [],_,.nil=>.nil
 | n::ns,_,.cons r t=>by obtain⟨u,rfl⟩:=r;exact .cons n u (ZP t)
def i6 (K:Frg):List V->Hp->VK->Prop:=fun xs H Q=>∃(p:Addr) (ss:List Int),xs=[.ref p]/\SqL K H p (ss.map V.int)/\ss.length < 64/\∀(ss':List Int) (q:Addr),ss'.Perm ss->ss'.Pairwise (·<=·)->H q=none->Q (.ref q) (upd H q (.lst (ss'.map V.int)))
def ZQ:List V->Hp->VK->Prop:=fun xs H Q=>∃(p:Addr) (kvs:List (Key×V)) (ss:List Int),xs=[.ref p]/\Rd H p (.dK kvs)/\kvs.map (·.1)=ss.map c0Q/\ss.length < 64/\∀(ss':List Int) (q:Addr),ss'.Perm ss->ss'.Pairwise (·<=·)->H q=none->Q (.ref q) (upd H q (.lst (ss'.map V.int)))
theorem XW:B2 X (.builtin "sorted") (i6 X.K):=by
 intro pins s σ H xs us Q I r h
 obtain⟨p,ss,rfl,hp,h64,q⟩:=h
 obtain⟨u,rfl,ru⟩:=DN r
 cases ru
 obtain⟨its,rv,pl,hz⟩:=I.list hp
 have hS:=ZP rv
 have el:=rv.length
 rw[zX] at el
 refine sorted_ints pl.isList hS (by omega) fun out ss' h1 h2 h3=>?_
 obtain⟨e,he⟩:=sortedAll_at s.heap its out
 have hn:H (s.heap.objs.size+1)=none:=I.hok.fresh (a8V _)
 have hlen:=h2.length_eq
 refine⟨.ref (s.heap.objs.size+1),_,I.laid (t':=s.toks) (o:=.lst (ss'.map V.int)) (fun b o eb=>sortedAll_old eb) (a8V _) ?_,rfl,q ss' _ h2 h3 hn⟩
 refine⟨by rw[zX,hlen];exact zN (xR h64) (by decide),out.toList,e,i5 h1,?_⟩
 have he':=he
 simpa [seqObj] using he'
theorem VN (hc:X.calm=true):B2 X (.builtin "sorted") ZQ:=by
 intro pins s σ H xs us Q I r h
 obtain⟨p,kvs,ss,rfl,hp,hk,h64,q⟩:=h
 obtain⟨u,rfl,ru⟩:=DN r
 cases ru
 obtain⟨z,hd,vs,rel,dd⟩:=GV I.hok hp
 have hk':vs.map (·.1)=ss.map c0Q:=by
   rw[← hk]
   clear hk dd z hp q
   unfold KV at rel
   induction rel with
   | nil=>rfl
   | cons h t ih=>simp[h.1,ih]
 refine SY (I.ok.hd hc) hd dd hk' h64 fun h1 h' tk out e ss' k1 k2 ho hS hperm hsort=>?_
 have I1:Inv X pins σ H { s with heap:=h1,toks:=tk }:=I.kept k1
 have hn:H h1.objs.size=none:=I1.hok.fresh (zR _)
 refine⟨.ref h1.objs.size,_,I1.laid (t':=tk) (o:=.lst (ss'.map V.int)) (h':=h') k2 (zR _) ?_,rfl,q ss' _ hperm hsort hn⟩
 refine⟨by rw[zX,hperm.length_eq];exact zN (xR h64) (by decide),out,e,i5 hS,?_⟩
 simpa [seqObj] using ho
def XX (K:Frg):List V->Hp->VK->Prop:=fun xs H Q=>LI K xs H Q∨i6 K xs H Q∨ZQ xs H Q
theorem XY (hc:X.calm=true):B2 X (.builtin "sorted") (XX X.K):=by
 intro pins s σ H xs us Q I r h
 rcases h with h | h | h
 · exact OF hc pins s σ H xs us Q I r h
 · exact XW pins s σ H xs us Q I r h
 · exact VN hc pins s σ H xs us Q I r h
end
end L2
namespace DL
open PySem PySem.Spec L2
theorem rY {X:Cx}{K:Frg}(h:X.K=K) (hc:X.calm=true):B2 X (.builtin "sorted") (XX K):=h▸XY hc
section
variable {K:Frg}{M:Own}{Q:DS->Own->Prop}{H:Hp}
theorem IF {W:Addr->Prop}:∀{bs:List Int},DVs K H W (bs.map b4X) (bs.map V.int)
 | []=>DVs.nil
 | b::bs=>DVs.cons (by unfold DV;rfl) IF
theorem RH {W:Addr->Prop}:∀{ns:List Int}{vs:List V},DVs K H W (ns.map b4X) vs->vs=ns.map V.int
 | [],vs,h=>by unfold DVs at h;subst h;rfl
 | n::ns,vs,h=>by
   rw[zI] at h
   unfold DVs at h
   obtain⟨v,r,rfl,h1,h2⟩:=h
   unfold DV at h1
   rw[h1,RH h2];rfl
theorem i7 {ss:List Int}(h64:ss.length < 64) (q:∀ss':List Int,ss'.Perm ss->ss'.Pairwise (·<=·)->Q (.d (.list (ss'.map .int))) M):DR K (XX K) [.d (.list (ss.map .int))] M Q:=fun H vs QQ oa s k=>by
 obtain⟨v,r,rfl,h1,h2⟩:=s
 cases h2
 unfold SI DV at h1
 obtain⟨a,vs,rfl,hl,hd⟩:=h1
 have e:=RH hd
 subst e
 refine .inr (.inl ⟨a,ss,rfl,hl.sq,h64,fun ss' p hp hs hn=>?_⟩)
 have g:Grow K M.W M.W H (upd H p (.lst (ss'.map V.int))):=AW _ hn
 refine k _ _ (.d (.list (ss'.map .int))) M (oa.new hn) ?_ ⟨g⟩ (q ss' hp hs)
 unfold SI DV
 exact⟨p,_,rfl,.inl ⟨fun w=>w (oa.none hn),.inl AG⟩,IF⟩
end
end DL
namespace XC
open PySem PySem.Spec
def MW (h:Heap) (e:Addr) (cls:Value) (dd:Option Addr) (ar:Value) (T:Option Addr) (fl:Value):Prop:=
 ∃oe vs,h.get? e=some oe/\oe.cls=cls/\oe.dict=dd/\oe.data = .fields vs/\vs[0]?=some ar /\
   match T with
   | none=>vs[1]?=some .none
   | some T=>vs[1]?=some (.ref T)/\T≠e/\∃oT ts,h.get? T=some oT/\oT.data = .fields ts/\ts[3]?=some fl
structure Moved (fs ch:List Addr) (h h':Heap):Prop where
 keep:∀b o,h.get? b=some o->b∉fs->b∉ch->h'.get? b=some o
 slot:∀b o,h.get? b=some o->b∉ch->∃sl,h'.get? b=some { o with slots:=sl }
 there:∀b o,h.get? b=some o->∃o',h'.get? b=some o'
theorem Moved.refl (fs ch:List Addr) (h:Heap):Moved fs ch h h:=⟨fun _ _ e _ _=>e,fun _ o e _=>⟨o.slots,e⟩,fun _ o e=>⟨o,e⟩⟩
theorem Moved.trans {fs ch:List Addr}{h h1 h2:Heap}(a:Moved fs ch h h1) (b:Moved fs ch h1 h2):Moved fs ch h h2 where
 keep:=fun c o e n m=>b.keep c o (a.keep c o e n m) n m
 slot:=fun c o e m=>by
   obtain⟨sl,e1⟩:=a.slot c o e m
   obtain⟨sl',e2⟩:=b.slot c _ e1 m
   exact⟨sl',e2⟩
 there:=fun c o e=>by
   obtain⟨o',e1⟩:=a.there c o e
   exact b.there c o' e1
theorem Moved.mono {fs fs' ch ch':List Addr}{h h':Heap}(a:Moved fs ch h h') (f:∀b∈fs,b∈fs') (g:∀b∈ch,b∈ch'):Moved fs' ch' h h':=
 ⟨fun b o e n m=>a.keep b o e (fun z=>n (f b z)) fun z=>m (g b z),fun b o e m=>a.slot b o e fun z=>m (g b z),a.there⟩
theorem Moved.drop {fs ch ch':List Addr}{h h':Heap}(a:Moved fs ch h h') (g:∀b∈ch,b∈ch'∨h.get? b=none):Moved fs ch' h h':=
 ⟨fun b o e n m=>a.keep b o e n fun z=>(g b z).elim m fun q=>by(rw[q] at e;cases e),fun b o e m=>a.slot b o e fun z=>(g b z).elim m fun q=>by(rw[q] at e;cases e),a.there⟩
theorem Moved.frames {fs ch:List Addr}{h h' base:Heap}(a:Moved fs ch h h') {l:List Env}(hl:h.FunFrames base l) (hc:∀b∈ch,b∉l.filterMap (·.frame)):h'.FunFrames base l:=by
 induction l with
 | nil=>trivial
 | cons env rest ih=>
   obtain⟨hk,⟨L,o,hf,hn,ho,hd⟩,hr⟩:=hl
   obtain⟨sl,e⟩:=a.slot L o ho fun z=>hc L z (by rw[a4J,hf];exact .head _)
   exact⟨hk,⟨L,_,hf,hn,e,hd⟩,ih hr fun b z q=>hc b z (by rw[a4J,hf];exact .tail _ q)⟩
theorem IG {o:Obj}{vs:Array Value}(f:Array Value->Array Value) (hd:o.data = .fields vs):(o.mapFields f).isFreed=false:=Obj.isFreed_of_fields (b3K hd f)
theorem i8 {o:Obj}{vs:Array Value}(f:Array Value->Array Value) (hd:o.data = .fields vs):o.mapFields f={ o with data:=.fields (f vs) }:=by
 obtain⟨c,d,dt,sl⟩:=o
 cases hd
 rfl
theorem LR {h:Heap}{a:Addr}{o:Obj}{vs:Array Value}(f:Array Value->Array Value) (ho:h.get? a=some o) (hd:o.data = .fields vs) (fs:List Addr):Moved fs [a] h (h.update a (Obj.mapFields f)):=by
 have k:∀b u,h.get? b=some u->b∉[a]->(h.update a (Obj.mapFields f)).get? b=some u:=fun b u e m=>by
   rw[yC _ _ (fun z=>m (by simp[z]))];exact e
 refine⟨fun b u e _ m=>k b u e m,fun b u e m=>⟨u.slots,k b u e m⟩,fun b u e=>?_⟩
 by_cases q:b=a
 · subst q;exact⟨_,a7Q _ ho (IG f hd)⟩
 · exact⟨u,k b u e (by simp[q])⟩
section
variable {M:Model}{A:Around}{E:Value->Shared->Prop}{s:Shared}{base:Heap}{env:Env}{outer:List Env}{L e:Addr}{cls ar:Value}{dd:Option Addr}{T:Option Addr}
theorem LS {T:Addr}{fl:Value}{Q:Unit->Shared->Prop}(x:MW s.heap e cls dd ar (some T) fl)
   (h:∀h',MW h' e cls dd ar (some T) .none->Moved [] [T] s.heap h'->Q () { s with heap:=h' }):wpAny M A (setFlight (.ref e) none) Q E s:=by
 obtain⟨oe,vs,he,hc,hdd,hd,h0,h1,hT,oT,ts,hoT,hdT,h3⟩:=x
 unfold setFlight
 refine zZ (wpAny_field he hd h1 ?_)
 rw[if_pos (show(a0X T != a1J)=true from by simp)]
 have hsz:3 < ts.size:=(Array.getElem?_eq_some_iff.mp h3).1
 refine wpAny_setField hoT hdT hsz (h _ ⟨oe,vs,?_,hc,hdd,hd,h0,h1,hT,_,_,a7Q _ hoT (IG _ hdT),b3K hdT _,by simp[hsz]⟩ (LR _ hoT hdT []))
 rw[yC _ _ hT];exact he
theorem VO {oe:Obj}{vs:Array Value}{head:Value}{hadNext:Bool}{Q:Unit->Shared->Prop}(hfr:A.frames=some (env::outer)) (hl:s.heap.FunFrames base (env::outer)) (hf:env.frame=some L)
   (he:s.heap.get? e=some oe) (hd:oe.data = .fields vs) (hsz:1 < vs.size) (h0:vs[0]?=some ar)
   (h:∀h' T',MW h' e oe.cls oe.dict ar (some T') (rawInt L)->s.heap.get? T'=none->s.heap.objs.size<=T'->Moved ((env::outer).filterMap (·.frame)) [e] s.heap h'->Q () { s with heap:=h' }) :
   wpAny M A (do let a ← frameOf env;let pl ← entryPlaceOf L hadNext;let b ← EntryCells.newEntry head a .none (rawInt L) .none pl;setField (.ref e) 1 b) Q E s:=by
 have hene:e∉(env::outer).filterMap (·.frame):=fun hm=>by
   obtain⟨_,o,ho,hnf⟩:=hl.mem hm
   rw[he] at ho;injection ho with ho;subst ho;exact hnf vs hd
 refine zZ (wpAny_frameOf_fun hfr hl hf fun h₁ hs₁=>?_)
 refine zZ (wpAny_entryPlaceOf fun pl hpl=>?_)
 unfold EntryCells.newEntry newFields
 refine zZ (xM ?_ (hpl.sizeOk5 _ _ _ _ _))
 have he₁:h₁.get? e=some oe:=(hs₁.2.1 e hene).trans he
 generalize hob:({ cls:=.type "traceback", dict:=none,data:=.fields ([head,.ref L,.none,rawInt L,.none]++(if pl.isEmpty then a2Z 6 a1J else pl)).toArray }:Obj)=ob
 have he₂:=zW (h:=h₁) ob he₁
 have hTe:h₁.objs.size≠e:=a5K (zM he₁)
 refine wpAny_setField he₂ hd hsz (h _ h₁.objs.size ⟨_,_,a7Q _ he₂ (IG _ hd),?_,?_,b3K hd _,?_,?_,hTe,ob,([head,.ref L,.none,rawInt L,.none]++(if pl.isEmpty then a2Z 6 a1J else pl)).toArray,?_,?_,?_⟩ ?_ ?_ ?_)
 · rw[i8 _ hd]
 · rw[i8 _ hd]
 · rw[Array.getElem?_setIfInBounds_ne (by decide)];exact h0
 · simp[hsz]
 · rw[yC _ _ (a8J hTe)]
   exact yZ h₁ (by rw[← hob];rfl)
 · rw[← hob]
 · simp
 · rw[hs₁.1];exact Heap.get?_none_of_le (zR _)
 · rw[hs₁.1];exact zR _
 · have k1:Moved ((env::outer).filterMap (·.frame)) [e] s.heap h₁:=⟨fun b o q n _=>(hs₁.2.1 b n).trans q,fun b o q _=>hs₁.2.2 b o q,fun b o q=>let ⟨sl,z⟩:=hs₁.2.2 b o q;⟨_,z⟩⟩
   have k2:Moved ((env::outer).filterMap (·.frame)) [e] h₁ (h₁.push ob):=⟨fun b o q _ _=>zW _ q,fun b o q _=>⟨o.slots,zW _ q⟩,fun b o q=>⟨o,zW _ q⟩⟩
   exact(k1.trans k2).trans (LR _ he₂ hd _)
theorem mN {Q:Unit->Shared->Prop}(hfr:A.frames=some (env::outer)) (hl:s.heap.FunFrames base (env::outer)) (hf:env.frame=some L) (x:MW s.heap e cls dd ar T .none)
   (h:∀h' T',MW h' e cls dd ar (some T') (rawInt L)->s.heap.get? T'=none->s.heap.objs.size<=T'->Moved ((env::outer).filterMap (·.frame)) (e::T.toList) s.heap h'->Q () { s with heap:=h' }) :
   wpAny M A (noteFrame (.ref e) env) Q E s:=by
 obtain⟨oe,vs,he,hc,hdd,hd,h0,hT⟩:=x
 subst hc hdd
 unfold noteFrame
 simp only[hf]
 cases T with
 | none=>
   refine zZ (wpAny_field he hd hT ?_)
   rw[if_neg (by decide)]
   exact VO hfr hl hf he hd (Array.getElem?_eq_some_iff.mp hT).1 h0 fun h' T' a b c d=>h h' T' a b c d
 | some T=>
   obtain⟨h1,hTe,oT,ts,hoT,hdT,h3⟩:=hT
   refine zZ (wpAny_field he hd h1 ?_)
   rw[if_pos (show(a0X T != a1J)=true from by simp)]
   refine zZ (wpAny_field hoT hdT h3 ?_)
   rw[if_neg (show ¬((a1J==rawInt L)=true) from by simp[rawInt])]
   refine zZ (wpAny_setField hoT hdT (Array.getElem?_eq_some_iff.mp h3).1 ?_)
   have mv:=LR (h:=s.heap) (·.setIfInBounds 3 a1J) hoT hdT ((env::outer).filterMap (·.frame))
   have hnT:T∉(env::outer).filterMap (·.frame):=fun hm=>by
     obtain⟨_,o,ho,hnf⟩:=hl.mem hm
     rw[hoT] at ho;injection ho with ho;subst ho;exact hnf ts hdT
   refine VO hfr (mv.frames hl fun b hb=>by(rw[a9W] at hb;subst hb;exact hnT)) hf (by rw[yC _ _ hTe];exact he) hd (Array.getElem?_eq_some_iff.mp h1).1 h0 fun h' T' a b c d=>?_
   have hsz:(s.heap.update T (Obj.mapFields (·.setIfInBounds 3 a1J))).objs.size=s.heap.objs.size:=Heap.size_after_update ..
   rw[hsz] at c
   refine h h' T' a (Heap.get?_none_of_le c) c ((mv.mono (fun _ z=>z) fun b z=>by simp at z;simp[z]).trans (d.mono (fun _ z=>z) fun b z=>by simp at z;simp[z]))
theorem VP {fl:Value}{Q:Unit->Shared->Prop}(hfr:A.frames=some (env::outer)) (hl:s.heap.FunFrames base (env::outer)) (hf:env.frame=some L) (x:MW s.heap e cls dd ar T fl) (hfl:fl = .none∨(T≠none/\fl=rawInt L))
   (h:∀h' T',MW h' e cls dd ar (some T') (rawInt L)->(T=some T'∨s.heap.get? T'=none/\s.heap.objs.size<=T')->Moved ((env::outer).filterMap (·.frame)) (e::T.toList) s.heap h'->Q () { s with heap:=h' }) :
   wpAny M A (noteFrame (.ref e) env) Q E s:=by
 rcases hfl with rfl | ⟨hT,rfl⟩
 · exact mN hfr hl hf x fun h' T' a b c d=>h h' T' a (.inr ⟨b,c⟩) d
 · cases T with
   | none=>exact absurd rfl hT
   | some T=>
     obtain⟨oe,vs,he,hc,hdd,hd,h0,h1,hTe,oT,ts,hoT,hdT,h3⟩:=id x
     unfold noteFrame
     simp only[hf]
     refine zZ (wpAny_field he hd h1 ?_)
     rw[if_pos (show(a0X T != a1J)=true from by simp)]
     refine zZ (wpAny_field hoT hdT h3 ?_)
     rw[if_pos (show(rawInt L==rawInt L)=true from by simp)]
     exact zY (h s.heap T x (.inl rfl) (Moved.refl ..))
theorem bW {fl:Value}{Q:Unit->Shared->Prop}(hfr:A.frames=some (env::outer)) (hl:s.heap.FunFrames base (env::outer)) (hf:env.frame=some L) (x:MW s.heap e cls dd ar T fl) (hfl:fl = .none∨(T≠none/\fl=rawInt L))
   (h:∀h' T',MW h' e cls dd ar (some T') .none->(T=some T'∨s.heap.objs.size<=T')->Moved ((env::outer).filterMap (·.frame)) (e::T.toList) s.heap h'->Q () { s with heap:=h' }) :
   wpAny M A (leaving env (.ref e)) Q E s:=by
 unfold leaving
 refine zZ (VP hfr hl hf x hfl fun h1 T' x1 n1 m1=>?_)
 refine LS (s:={ s with heap:=h1 }) x1 fun h2 x2 m2=>h h2 T' x2 (n1.imp id fun z=>z.2) ?_
 have m1':Moved ((env::outer).filterMap (·.frame)) (T'::e::T.toList) s.heap h1:=m1.mono (fun _ z=>z) fun b z=>.tail _ z
 have m2':Moved ((env::outer).filterMap (·.frame)) (T'::e::T.toList) h1 h2:=m2.mono (fun _ z=>absurd z (by simp)) fun b z=>by simp at z;simp[z]
 refine(m1'.trans m2').drop fun b z=>(yX.mp z).elim (fun q=>?_) fun q=>.inl q
 rcases n1 with n1 | n1
 · left;rw[q,n1];simp
 · right;rw[q];exact n1.1
end
end XC
namespace XC
open PySem PySem.Spec
abbrev i9 (C t:Addr):Obj:={ cls:=.ref C,data:=.fields #[.ref t,.none,.none,.none,.bool false,.none] }
abbrev PZ (h:Heap) (C:Addr) (rest:List Value):Heap:=(h.push { cls:=.type "tuple", data:=.seq rest.toArray }).push (i9 C h.objs.size)
theorem GM {h:Heap}{C:Addr}{rest:List Value}:∀b o,h.get? b=some o->(PZ h C rest).get? b=some o:=fun b o e=>zW _ (zW _ e)
theorem ZR {h:Heap}{C:Addr}{rest:List Value}:(PZ h C rest).get? (h.objs.size+1)=some (i9 C h.objs.size):=by heap_get
section
variable {prog:Program}{w:World}{A:Around}{E:Value->Shared->Prop}{h:Heap}{g:Array GenState}{d:Drawn}{t:Nat}{os:OsState}
variable {nm q:Str}{C N:Addr}{bs bm bmN:List Value}{hdct:Bool}{sn:List Str}{sub:List Value}{ab:Bool}{col:Option Bool}{dd:Option Addr}{k0 k1 k2 k3 k5:Option Value}{B newId initId:String}{init:Value}
theorem VQ {M:Model}(F:ExcBaseFacts B newId initId bmN) (hB:bm.contains (.type B)=true) {rest:List Value}{Q:Unit->Shared->Prop}(hC:h.get? C=some (excClassObj nm q C N bs bm hdct sn sub ab col dd k0 k1 k2 k3 k5 newId))
   (hq:Q () ⟨h,g,d,t,os⟩):wpAny M A (checkBuiltinCall newId ⟨.ref C::rest,[]⟩) Q E ⟨h,g,d,t,os⟩:=by
 have hcont:(a0X C::bm).contains (.type B)=true:=by rw[a1K,hB,Bool.or_true]
 have hstar:=F.noStar
 simp only[checkBuiltinCall,F.newKind,F.newSplit,F.newRow]
 repeat (first | refine wpAny_loadPart_at hC ?_ | (refine wpAny_isSubtype_exc hC ?_;rw[hcont]) | refine wpAny_staticBase_exc hC ?_ | refine wpAny_madeBy_exc hC ?_ | simp only[bne_self_eq_false,b3Q,if_false] | wp_step)
 exact hq
theorem uO {R:Result->Shared->Prop}(F:ExcBaseFacts B newId initId bmN) (hB:bm.contains (.type B)=true) (hA:bm.contains (.type "AttributeError")=false) (hN:bm.contains (.type "NameError")=false) {rest:List Value}
   (hC:h.get? C=some (excClassObj nm q C N bs bm hdct sn sub ab col dd k0 k1 k2 k3 k5 newId))
   (hq:R (.ok (.ret (.ref (h.objs.size+1)))) ⟨PZ h C rest,g,d,t,os⟩) (hrest:rest.length<=sizeLine) :
   codeAny (model prog w) A (.builtin newId ⟨.ref C::rest,[]⟩) R ⟨h,g,d,t,os⟩:=by
 have hends:=F.ends
 have hcB:(a0X C::bm).contains (.type B)=true:=by rw[a1K,hB,Bool.or_true]
 have hcA:(a0X C::bm).contains (.type "AttributeError")=false:=by rw[a1K,hA];rfl
 have hcN:(a0X C::bm).contains (.type "NameError")=false:=by rw[a1K,hN];rfl
 refine codeAny_builtinAt F.entry ?_
 unfold Builtin.«BaseException.__new__»
 refine wpAt_bind ?_
 show wpAt _ _ _ (stack >>= _) _ _ _
 refine wpAt_bind (wpAt_stack fun p below=>wpAt_of_wpAny ?_)
 wp_walk
 refine wpAt_of_wpAny ?_
 rw[F.owner]
 repeat (first | with_reducible refine wpAny_madeHere_exc F.canon hC ?_ | with_reducible refine wpAny_loadPart_at hC ?_ | (with_reducible refine wpAny_isSubtype_exc hC ?_;first | rw[hcB] | rw[hcA] | rw[hcN]) | wp_step)
 show R _ _
 rw[a5J]
 exact hq
theorem VR (F:ExcBaseFacts B newId initId bmN) (hB:bm.contains (.type B)=true) (hA:bm.contains (.type "AttributeError")=false) (hN:bm.contains (.type "NameError")=false) {rest:List Value}{Q:Fin->Shared->Prop}
   (hC:h.get? C=some (excClassObj nm q C N bs bm hdct sn sub ab col dd k0 k1 k2 k3 k5 newId)) (hi:PySem.W.Looks (model prog w) h (typeLookup (.ref C) "__init__") (some init))
   (hb:∀self:Value,PySem.W.Looks (model prog w) h (bindSpecial init self) (init,[self]))
   (hq:codeAny (model prog w) A (.call init ⟨.ref (h.objs.size+1)::rest,[]⟩)
     (fun r s'=>match r with | .ok (.ret v)=>v = .none/\Q (.done (.ret (.ref (h.objs.size+1)))) s' | .ok _=>False | .error e=>E e s') ⟨PZ h C rest,g,d,t,os⟩) (hrest:rest.length<=sizeLine) :
   wpAny (model prog w) A (Builtin.«type.__call__» ⟨.ref C::rest,[]⟩) Q E ⟨h,g,d,t,os⟩:=by
 repeat (first | with_reducible refine wpAny_loadPart_at hC ?_ | with_reducible refine wpAny_madeBy_exc hC ?_ | wp_step)
 refine codeAny_call_builtin_code (Code.quiet_builtin _ F.quiet) (VQ F hB hC ?_)
 refine uO F hB hA hN hC ?_ hrest
 show wpAny _ _ _ _ _ _
 have hC₁:(PZ h C rest).get? C=_:=GM _ _ hC
 have hget:(PZ h C rest).get? (h.objs.size+1)=some (i9 C h.objs.size):=ZR
 have hcC:(a0X C::bm).contains (.ref C)=true:=by simp
 unfold isInstance
 repeat (first | with_reducible refine wpAny_loadPart_at hget ?_ | (with_reducible refine wpAny_isSubtype_exc hC₁ ?_;rw[hcC]) | wp_step)
 show wpAny _ _ (typeLookup (.ref C) _) _ _ _
 refine(hi.keeps GM).here (s:=⟨PZ h C rest,g,d,t,os⟩) ?_
 refine wpAny_holding (zZ (((hb _).keeps GM).here (s:=⟨PZ h C rest,g,d,t,os⟩) ?_))
 refine zZ (wpAny_call (xN hq fun r s' z=>?_))
 rcases r with e | (v | _ | _ | _) <;> first | exact z | exact z.elim | skip
 obtain⟨rfl,z⟩:=z
 wp_walk
 exact z
theorem rZ (F:ExcBaseFacts B newId initId bmN) (hB:bm.contains (.type B)=true) (hA:bm.contains (.type "AttributeError")=false) (hN:bm.contains (.type "NameError")=false) {rest:List Value}{Q:Value->Shared->Prop}
   (hC:h.get? C=some (excClassObj nm q C N bs bm hdct sn sub ab col dd k0 k1 k2 k3 k5 newId)) (hi:PySem.W.Looks (model prog w) h (typeLookup (.ref C) "__init__") (some init))
   (hb:∀self:Value,PySem.W.Looks (model prog w) h (bindSpecial init self) (init,[self]))
   (hq:codeAny (model prog w) (A.under (.builtin "type.__call__" ⟨.ref C::rest,[]⟩)) (.call init ⟨.ref (h.objs.size+1)::rest,[]⟩)
     (fun r s'=>match r with | .ok (.ret v)=>v = .none/\Q (.ref (h.objs.size+1)) s' | .ok _=>False | .error e=>E e s') ⟨PZ h C rest,g,d,t,os⟩) (hrest:rest.length<=sizeLine) :
   wpAny (model prog w) A (call (.ref C) rest) Q E ⟨h,g,d,t,os⟩:=by
 have f1:=tc_lookup
 have f2:=tc_bind (.ref C)
 have hT:(⟨h,g,d,t,os⟩:Shared).TypeIs (.ref C) "type" := ⟨_,hC,rfl⟩
 refine wpAny_call (codeAny_of_tree ?_)
 show wpAny _ _ (callAny (.ref C) _) _ _ _
 repeat (any_goals (first | assumption | with_reducible refine wpAny_loadPart_at hC ?_ | wp_step))
 refine⟨rfl,?_⟩
 refine codeAny_call_builtin_at (Code.quiet_builtin _ (by decide +kernel)) entry_typeCall (wpAny_check_type_call_sub hC (VR F hB hA hN hC hi hb (xN hq fun r s' z=>?_) hrest))
 rcases r with e | (v | _ | _ | _) <;> first | exact z | exact z.elim
theorem bX {s:Shared}{env:Env}{x:Sem Value}{Q:Flow->Shared->Prop}(hbase:bm.contains (.type "BaseException")=true) (hh:A.handled=none)
   (hx:wpAny (model prog w) A x (fun v s₁=>∃e t dx,v = .ref e/\s₁.heap.get? C=some (excClassObj nm q C N bs bm hdct sn sub ab col dd k0 k1 k2 k3 k5 newId) /\
     s₁.heap.get? e=some { cls:=.ref C,dict:=dx,data:=.fields #[.ref t,.none,.none,.none,.bool false,.none] }/\E (.ref e) s₁) E s) :
   wpAny (model prog w) A (raiseStmt env (some x) none) Q E s:=by
 have hcB:(a0X C::bm).contains (.type "BaseException")=true:=by rw[a1K,hbase,Bool.or_true]
 unfold raiseStmt
 refine zZ (wpAny_mono hx (fun v s₁ h₁=>?_) fun _ _ x=>x)
 obtain⟨e,t,dx,rfl,hC,he,hE⟩:=h₁
 obtain⟨hp,g,d,tk,os⟩:=s₁
 repeat (first | with_reducible refine wpAny_loadPart_at he ?_ | with_reducible refine wpAny_loadPart_at hC ?_ | (with_reducible refine wpAny_isSubtype_exc hC ?_;rw[hcB]) | wp_step)
 exact wpAny_raiseNew_none hh hE
end
end XC
namespace XC
open PySem PySem.Spec PySem.W Builtin Builtin.ObjectAttr
section
variable {prog:Program}{w:World}{A:Around}{E:Value->Shared->Prop}{K:Frag}{C x:Addr}{s:Shared}{o:Obj}{vs:Array Value}{name:Str}{v:Value}{cd:ClassData}
theorem mO {R:Result->Shared->Prop}{tk:Tok}(X:K.In s.heap) (hx:s.heap.get? x=some o) (hc:o.cls = .ref C) (hdn:o.dict=none) (hdt:o.data = .fields vs)
   (hcd:clsIn K C=some cd) (hm:cd.mro.contains (.type "object")=true) (hp:∀self,refuseLoop self "__setattr__" cd.mro=pure ()) (ht:takerIn K C name=some none) (hh:cd.hasDict=true)
   (hq:∀h' tk' dx,s.heap.objs.size<=dx->h'.get? x=some { o with dict:=some dx }->h'.Ns1 dx (fun y=>if y=name then some v else none)->(∀b u,b≠x->s.heap.get? b=some u->h'.get? b=some u) ->
     R (.ok (.ret .none)) { s with heap:=h',toks:=tk' }) :
   codeAny (model prog w) A (.call (.builtin "object.__setattr__") ⟨[.ref x,.str name tk,v],[]⟩) R s:=by
 have SF:=PySem.F.store_object
 have ne:cd.mro.isEmpty=false:=by cases q:cd.mro with | nil=>rw[q] at hm;cases hm | cons _ _=>rfl
 have ty:Looks (model prog w) s.heap (typeOf (.ref x)) (.ref C):=(Looks.ld hx).andThen (by rw[hc];exact .now)
 have sub:Looks (model prog w) s.heap (isInstance (.ref x) (.type "object")) true:=ty.andThen (looks_mroIn X (by unfold mroIn;rw[hcd,Option.bind_some,if_neg (by rw[ne];decide),hm]))
 refine codeAny_call_builtin SF.slot.plain SF.entry (@check_slot (model prog w) _ _ s "object.__setattr__" "object" "__setattr__" (.ref x) [.str name tk,v] [] _ SF.kind SF.split sub (SF.args (.ref x) (.str name tk) v) ?_)
 obtain⟨attr,ha,hr⟩:=Option.bind_eq_some_iff.mp ht
 have hmr:Looks (model prog w) s.heap (mroOf (.ref C)) cd.mro:=(looks_clsIn X hcd).andThen .now
 have L3:Looks (model prog w) s.heap (storeTaker? attr) none:=by
   cases attr with
   | none=>cases hr;exact .now
   | some a=>
     obtain⟨b,hb,e⟩:=Option.map_eq_some_iff.mp hr
     refine(looks_takesIn X hb).andThen ?_
     cases b <;> first | exact .now | cases e
 rw[osa_eq,refuse_eq]
 refine zZ (zZ (ty.here (zZ (hmr.here ?_))))
 rw[hp]
 refine zY (zZ (ty.here (zZ ((looks_findIn X ha).here (zZ (L3.here ?_))))))
 obtain⟨hp0,g,d,t,os⟩:=s
 obtain⟨oc,od,oda,osl⟩:=o
 dsimp only at hc hdn hdt hq
 subst hc hdn hdt
 have hx':hp0.get? x=some ⟨.ref C,none,.fields vs,osl⟩:=hx
 refine zZ (zY (zZ (zZ (wpAny_loadPart hx' (zZ ((looks_clsIn X hcd).here ?_))))))
 rw[hh]
 have hx₁:(hp0.push { cls:=.type "dict", data:=.dict #[] }).get? x=some ⟨.ref C,none,.fields vs,osl⟩:=zW _ hx'
 have hxs:x≠hp0.objs.size:=zC (zM hx')
 refine zZ (wpAny_alloc' ?_)
 refine zZ (wpAny_update' hx₁ ?_)
 refine zY (a:=some hp0.objs.size) ?_
 have hgd:((hp0.push { cls:=.type "dict", data:=.dict #[] }).update x fun o=>{ cls:=o.cls,dict:=some hp0.objs.size,data:=o.data,slots:=o.slots }).get? hp0.objs.size
     = some { cls:=.type "dict", data:=.dict #[] }:=
   (yB _ _ _ _ hxs.symm).trans (Heap.get?_push_at rfl rfl)
 have hnd:((hp0.push { cls:=.type "dict", data:=.dict #[] }).update x fun o=>{ cls:=o.cls,dict:=some hp0.objs.size,data:=o.data,slots:=o.slots }).Ns hp0.objs.size (fun _=>none):=
   ⟨_,#[],_,hgd,rfl,fun e he=>absurd he (by simp),fun _=>rfl⟩
 show wpAny _ _ (storeInDict hp0.objs.size (.str name tk) name v) _ _ _
 unfold storeInDict newKeyGuard
 refine zZ (zY (zZ (wpAny_nsSet1 (Heap.Ns1.of_empty hnd) fun h' hn' hs=>?_)))
 obtain⟨oD,esD,epD,hoD,hdD,hcD⟩:=hn'.count (Within.cons name v Within.nil)
 refine zZ (wpAny_lookBehind hoD (by rw[hdD];exact pastItsLine_dict (zN hcD (by rw[yR,b0K,sizeLine_eq];omega))) ?_)
 refine zY (hq h' _ hp0.objs.size (zR _) ?_ hn' fun b u hbx hb=>?_)
 · exact(hs.2 x hxs).trans (a7Q _ hx₁ rfl)
 · exact(hs.2 b (zC (zM hb))).trans ((yB _ _ _ _ hbx).trans (zW _ hb))
theorem mP {Q:Unit->Shared->Prop}(X:K.In s.heap) (hx:s.heap.get? x=some o) (hc:o.cls = .ref C) (hdn:o.dict=none) (hdt:o.data = .fields vs)
   (hs:findIn K (.ref C) "__setattr__"=some (some (.builtin "object.__setattr__"))) (hcd:clsIn K C=some cd) (hm:cd.mro.contains (.type "object")=true) (hp:∀self,refuseLoop self "__setattr__" cd.mro=pure ())
   (ht:takerIn K C name=some none) (hh:cd.hasDict=true)
   (hq:∀h' tk' dx,s.heap.objs.size<=dx->h'.get? x=some { o with dict:=some dx }->h'.Ns1 dx (fun y=>if y=name then some v else none)->(∀b u,b≠x->s.heap.get? b=some u->h'.get? b=some u) ->
     Q () { s with heap:=h',toks:=tk' }) :
   wpAny (model prog w) A (setAttr (.ref x) name v) Q E s:=by
 have J:InstAt s.heap x o C none:=⟨hx,hc,by obtain⟨_,_,_,_⟩:=o;cases hdt;rfl,by rw[hdn];trivial⟩
 exact set_plain X J hs (mO (s:={ s with toks:=s.toks+1 }) X hx hc hdn hdt hcd hm hp ht hh fun h' tk' dx a b c d=>hq h' tk' dx a b c d)
end
end XC
namespace XC
open PySem PySem.Spec L2
open PyProof.Rows (envOfC AllBare)
abbrev St:=L2.St
theorem RI {P:Program}{w:World}{H:Hp}{h h':Heap}{fs ch:List Addr}(ok:HOk P w H h) (m:Moved fs ch h h') (f1:∀b∈fs,H b=none) (f2:∀b∈ch,H b=none):HOk P w H h':=fun a o e=>by
 have ne:∀b u,H b=some u->b∉fs/\b∉ch:=fun b u q=>⟨fun z=>(by rw[f1 b z] at q;cases q),fun z=>(by rw[f2 b z] at q;cases q)⟩
 refine(ok a o e).stay (fun b u hb q=>?_) (fun _ q=>q) fun _ _ q=>q
 rcases hb with rfl | hb
 · exact m.keep b u q (ne b o e).1 (ne b o e).2
 · exact m.keep b u q (ne b _ hb).1 (ne b _ hb).2
def CXE (P:Program) (w:World):CXT:=fun outer H s E e s'=>∃(a T:Addr) (cls:Value) (dd:Option Addr) (ar:Value) (H':Hp),e = .ref a/\s'.os=s.os/\AllBare s'.gens/\Un (frs outer) [] H H' s.heap s'.heap/\HOk P w H' s'.heap /\
 MW s'.heap a cls dd ar (some T) .none/\s.heap.objs.size<=a/\s.heap.objs.size<=T/\H' a=none/\H' T=none/\E cls dd H'
structure Loose (X:Cx) (H:Hp) (b:Addr):Prop where
 above:X.s₀.heap.objs.size<=b
 loc:b≠X.env.locals
 cel:∀x c,X.env.cells.lookup x=some c->c≠b
 fre:H b=none
 pn:∀p∈X.pn,p.1≠b
theorem Loose.of {X:Cx}{pins:List (Addr×Obj)}{σ:St}{H H':Hp}{s:Shared}{b:Addr}(I:Inv X pins σ H s) (h:s.heap.objs.size<=b) (f:H' b=none):Loose X H' b:=by
 refine⟨zN I.sz h,fun z=>?_,fun x c e z=>?_,f,fun p hp z=>?_⟩
 · have:=I.lt;rw[← z] at this;exact absurd (zP this h) (yF _)
 · obtain⟨v,o,ho,_⟩:=I.cell x c e
   have:=zM ho
   rw[z] at this
   exact absurd (zP this h) (yF _)
 · have:=zM (I.pin p (zA _ hp)).1
   rw[z] at this
   exact absurd (zP this h) (yF _)
def Fly (X:Cx) (R:St->XK) (e:Value) (s':Shared):Prop:=
 ∃(a:Addr) (T:Option Addr) (cls:Value) (dd:Option Addr) (ar:Value) (σ:St) (H:Hp) (fl:Value),e = .ref a/\Inv X [] σ H s'/\(MW s'.heap a cls dd ar T fl/\(fl = .none∨(T≠none/\fl=rawInt X.env.locals)))/\Loose X H a/\(∀t,T=some t->Loose X H t)/\R σ cls dd H
theorem iE {X:Cx}{pins:List (Addr×Obj)}{σ:St}{H:Hp}{s:Shared}(I:Inv X pins σ H s):Inv X [] σ H s:=I.pins_of fun p hp=>nomatch hp
theorem iF {X:Cx}{R:St->XK}{pins:List (Addr×Obj)}{σ:St}{H:Hp}{s:Shared}{e:Value}{s':Shared}(I:Inv (X.wish (Fly X R)) pins σ H s) (h:CXE X.prog X.w X.stack H s (R σ) e s'):Fly X R e s':=by
 obtain⟨a,T,cls,dd,ar,H',rfl,os,bare,un,hok,x,h1,h2,f1,f2,r⟩:=h
 have I':=I.unwish
 have J:Inv X pins σ H' s':=I'.call' (ch:=[]) os un hok bare fun b z=>absurd z (by simp)
 exact⟨a,some T,cls,dd,ar,σ,H',.none,rfl,iE J,⟨x,.inl rfl⟩,Loose.of I' h1 f1,fun t e=>(by cases e;exact Loose.of I' h2 f2),r⟩
def SZ (sp:Sp) (R:St->XK) (t:TA):TE:=fun σ H Q=>t σ H fun vs H1=>sp vs H1 Q (R σ)
theorem iG {X:Cx}{R:St->XK}{k:Nat}{f:Addr}{fd:FuncData}{ps:List Str}{sp:Sp}{x:Str}{p pos:Pos}{e:Expr}{es:List Expr}{t:TA}(F:FnOk X.prog X.w X.K X.mg X.base (CXE X.prog X.w) k f fd ps sp) (hr:Room k X.A) (hg:Gl X x) (hm:X.mg x=some (.ref f)) (hk:a3J X.K (.ref f)=true) (hb:Binds X.K fd ps [])
   (ha:PA (X.wish (Fly X R)) (e::es) t) (hdb:(x==("__debug__":Str))=false:=by decide) (he:starEach (e::es) X.env=(false,eval e X.env)::starEach es X.env:=by rfl) (hpl:(backTo pos (starEach es X.env)).any (·.1)=false:=by rfl) :
   PE (X.wish (Fly X R)) (.Call (.Name x p) (e::es) [] pos) (SZ sp R t):=by
 intro pins s σ H Q I h
 refine wpAny_Call_Name_kw (IS (X:=X.wish (Fly X R)) I hg hm ?_ hdb)
 refine PySem.W.callWith_K (h₀:=X.base) I.ok.mod.kin hk (thn (ha pos pins s σ H _ I h) fun us s1 ⟨vs,H1,I1,r,q⟩=>⟨I1.kIn,?_⟩) he hpl
 have hl:(us++[]).length=ps.length:=by rw[a8X,← r.length];exact F.len _ _ _ _ q
 have r2:Vals vs (us++[]):=by rw[a8X];exact r
 refine wpAny_call (xN (F.run X.A X.stack s1 H1 ⟨us,[]⟩ (us++[]) vs Q (R σ) hr I1.env0 (hb s1 us I1.kIn hl) r2 q) fun r' s' hq=>?_)
 cases r' with
 | error e=>exact iF I1 hq
 | ok fl=>
   cases fl with
   | ret u=>exact I1.after hq
   | next=>exact a6Z hq
   | brk=>exact a6Z hq
   | cont=>exact a6Z hq
theorem LT {X:Cx}{pins:List (Addr×Obj)}{σ:St}{H:Hp}{s:Shared}{ch:List Addr}{h':Heap}(I:Inv X pins σ H s) (m:Moved (frs X.stack) ch s.heap h') (hch:∀b∈ch,H b=none/\X.s₀.heap.objs.size<=b/\b≠X.env.locals/\(∀x c,X.env.cells.lookup x=some c->c≠b)/\∀p∈X.pn++pins,p.1≠b) :
   Inv X pins σ H { s with heap:=h' }:=by
 refine I.call' (s':={ s with heap:=h' }) (ch:=ch) rfl ⟨fun b o q n f c=>m.keep b o q f c,fun b o q n f c=>m.slot b o q c,fun _ _ _ n _=>n,fun b o q _=>m.there b o q,fun _ _ q=>q,fun _ _ _ q=>q,fun b ps q=>⟨#[],by rw[q];simp⟩⟩
   (RI I.hok m I.stkFree fun b hb=>(hch b hb).1) I.bare fun b hb=>⟨.inr (hch b hb).2.1,(hch b hb).2.2⟩
section
variable {P:Program}{w:World}{K:Frg}{mg:Str->Option Value}{base:Heap}
theorem sB {N:List Str}{qual:Str}{scope:Scope}{f:Addr}{cd:Value}{A:Around}{outer:List Env}{s:Shared}{H:Hp}{E:XK}{e:Value}{s':Shared}
   (h:Fly (K7 (CXE P w) P w K mg base N qual scope f cd A outer s H E) (fun _=>E) e s'):(K7 (CXE P w) P w K mg base N qual scope f cd A outer s H E).xe e s':=by
 obtain⟨a,T,cls,dd,ar,σ,H',fl,rfl,I,⟨x,hfl⟩,la,lT,r⟩:=h
 have hst:=I.stack
 have hfre:=I.stkFree
 refine bW (base:=base) (env:=envOfC qual scope s.heap.objs.size f cd) (outer:=outer) (L:=s.heap.objs.size) I.ok.frames hst rfl x hfl fun h' T' x' z m=>?_
 have hfr:∀b∈(envOfC qual scope s.heap.objs.size f cd::outer).filterMap (·.frame),H' b=none:=hfre
 have hch:∀b∈a::T.toList,Loose (K7 (CXE P w) P w K mg base N qual scope f cd A outer s H E) H' b:=fun b hb=>by
   rcases yX.mp hb with q | q
   · rw[q];exact la
   · exact lT b (by cases T with | none=>simp at q | some t=>simp at q;rw[q])
 have nch:∀b o,s.heap.get? b=some o->b∉a::T.toList:=fun b o q hb=>absurd (zP (zM q) (hch b hb).above) (yF _)
 have nfr:∀b o,s.heap.get? b=some o->b∉frs outer->b∉(envOfC qual scope s.heap.objs.size f cd::outer).filterMap (·.frame):=fun b o q n hb=>by
   rcases yX.mp (show b∈s.heap.objs.size::frs outer from hb) with z | z
   · rw[z] at q;exact absurd (zM q) (yF _)
   · exact n z
 have B:=I.base
 have hok:=RI I.hok m hfr fun b hb=>(hch b hb).fre
 have sz:=I.sz
 have hT2:s.heap.objs.size<=T'/\H' T'=none:=by
   rcases z with z | z
   · exact⟨(lT T' z).above,(lT T' z).fre⟩
   · exact⟨zN sz z,I.hok.fresh z⟩
 refine⟨a,T',cls,dd,ar,H',rfl,I.os,I.bare,⟨fun b o q n hb hx=>?_,fun b o q n hb hx=>?_,B.free,fun b o q hx=>?_,B.tups,B.frzs,B.tbls⟩,hok,x',la.above,hT2.1,la.fre,hT2.2,r⟩
 · exact m.keep b o (B.keep b o q n hb hx) (nfr b o q hb) (nch b o q)
 · obtain⟨sl,q1⟩:=B.slot b o q n hb hx
   obtain⟨sl',q2⟩:=m.slot b _ q1 (nch b o q)
   exact⟨sl',q2⟩
 · obtain⟨o',q1⟩:=B.there b o q hx
   exact m.there b o' q1
theorem iH {X:Cx}{E:Value->Shared->Prop}{st:List Stmt}{t:TS}(h:PSs (X.wish E) st t) (hE:∀e s,E e s->X.xe e s):PSs X st t:=fun pins s σ H D I hw=>
 wpAny_mono (h pins s σ H D (I.wish _) hw) (fun _ _ q=>q.unwish) hE
theorem vZ {x qual:Str}{st:Stmt}{f:Addr}{fd:FuncData}{N ps:List Str}{k:Nat}{sp:Sp}(F:Fun K x qual st f fd) (S:FnScope N ps (AC st)) (len:∀vs H Q E,sp vs H Q E->vs.length=ps.length)
   (hbody:∀(cdv:Value) (A:Around) (outer:List Env) (s:Shared) (H:Hp) (vs:List V) (Q:VK) (E:XK),Room k (A.deeper (envOfC qual (AC st) s.heap.objs.size f cdv))->sp vs H Q E ->
     ∃t,PSs ((K7 (CXE P w) P w K mg base N qual (AC st) f cdv A outer s H E).wish (Fly (K7 (CXE P w) P w K mg base N qual (AC st) f cdv A outer s H E) fun _=>E)) (BJ st) t/\t { nx:=fun _ H'=>Q .non H',rt:=Q } (EZ N vs) H):FnOk P w K mg base (CXE P w) (k+1) f fd ps sp:=by
 obtain⟨oc,od,kV,doc,pm,an,cdv,ct,osl,rfl,lk,hcd⟩:=F.ex
 refine nU lk hcd S len fun A outer s H vs Q E hr hsp=>?_
 obtain⟨t,h,q⟩:=hbody cdv A outer s H vs Q E hr hsp
 exact⟨t,iH h fun e s' z=>sB z,q⟩
end
end XC
namespace XC
open PySem PySem.Spec L2
open PyProof.Rows (envOfC AllBare)
abbrev bmV:List Value:=[.type "ValueError", .type "Exception", .type "BaseException", .type "object"]
structure XCls (K:Frg) (C S:Addr) (init:Value):Prop where
 lk:∃(nm q:Str) (N:Addr) (bs:List Value) (sn:List Str) (sub:List Value) (ab:Bool) (col:Option Bool) (dd:Option Addr) (k0 k1 k2 k3 k5:Option Value),K.lookup C=some (excClassObj nm q C N bs (.ref S::bmV) true sn sub ab col dd k0 k1 k2 k3 k5 "ValueError.__new__")
 init:a8K K (.ref C) "__init__"=some (some init)
 kp:a3J K (.ref C)=true
theorem mQ {S:Addr}:(a0X S::bmV).contains (.type "ValueError")=true:=by rw[a1K];rfl
theorem mR {S:Addr}:(a0X S::bmV).contains (.type "AttributeError")=false:=by rw[a1K];rfl
theorem mS {S:Addr}:(a0X S::bmV).contains (.type "NameError")=false:=by rw[a1K];rfl
theorem iI {S:Addr}:(a0X S::bmV).contains (.type "BaseException")=true:=by rw[a1K];rfl
end XC
namespace XC
open PySem PySem.Spec L2
open PyProof.Rows (envOfC AllBare)
def xo (e C t:Addr) (dx:Option Addr):HO:=.ext fun h=>h.get? e=some { cls:=.ref C,dict:=dx,data:=.fields #[.ref t,.none,.none,.none,.bool false,.none] }
theorem oP {P:Program}{w:World}{H:Hp}{h:Heap}{e C t:Addr}{dx:Option Addr}(q:h.get? e=some { cls:=.ref C,dict:=dx,data:=.fields #[.ref t,.none,.none,.none,.bool false,.none] }):ObjOk P w H h e (xo e C t dx):=
 ⟨q,⟨_,q⟩,fun _ _ a b=>b _ a⟩
structure XSet (K:Frg) (C:Addr) (fn:Str):Prop where
 sa:a8K K (.ref C) "__setattr__"=some (some (.builtin "object.__setattr__"))
 ta:PySem.W.takerIn K C fn=some none
def sX (C:Addr) (fn:Str) (ta tv:TE):TS:=fun D σ H=>tv σ H fun y H1=>ta σ H1 fun x H2=>∃e t,x = .ref e/\H2 e=some (xo e C t none) /\
 ∀d,H2 d=none->d≠e->D.nx σ (upd (upd H2 d (.xd [(fn,y)])) e (xo e C t (some d)))
section
variable {X:Cx}{pins:List (Addr×Obj)}{σ:St}{H:Hp}{s:Shared}
theorem iJ {e C t dx:Addr}{fn:Str}{y:V}{u:Value}{h':Heap}{t':Nat}(I:Inv X pins σ H s) (he:H e=some (xo e C t none)) (ry:RelV y u) (hd:s.heap.objs.size<=dx)
   (q1:h'.get? e=some { cls:=.ref C,dict:=some dx,data:=.fields #[.ref t,.none,.none,.none,.bool false,.none] }) (q2:h'.Ns1 dx (fun z=>if z=fn then some u else none))
   (k:∀b o,b≠e->s.heap.get? b=some o->h'.get? b=some o):Inv X pins σ (upd (upd H dx (.xd [(fn,y)])) e (xo e C t (some dx))) { s with heap:=h',toks:=t' }:=by
 have hdn:H dx=none:=I.hok.fresh hd
 have hne:dx≠e:=fun z=>by rw[z,he] at hdn;cases hdn
 have lo:∀b o,s.heap.get? b=some o->b≠dx:=fun b o q z=>by rw[z] at q;exact absurd (zP (zM q) hd) (yF _)
 have same:∀b,b≠e->b≠dx->upd (upd H dx (.xd [(fn,y)])) e (xo e C t (some dx)) b=H b:=fun b h1 h2=>by rw[AF h1,AF h2]
 have tr:∀b o,H b=some o->b≠dx:=fun b o q z=>by rw[z,hdn] at q;cases q
 refine I.un ⟨fun b o q n _ _=>k b o (fun z=>by rw[z,he] at n;cases n) q,fun b o q n _ _=>⟨o.slots,k b o (fun z=>by rw[z,he] at n;cases n) q⟩,fun b o q n _=>?_,fun b o q _=>?_,fun b xs q=>?_,fun b o xs q=>?_,fun b ps q=>⟨#[],?_⟩⟩ fun b o q=>?_
 · rw[same b (fun z=>by rw[z,he] at n;cases n) (lo b o q)];exact n
 · by_cases z:b=e
   · rw[z];exact⟨_,q1⟩
   · exact⟨o,k b o z q⟩
 · rw[same b (fun z=>by rw[z,he] at q;cases q) (tr b _ q)];exact q
 · rw[same b (fun z=>by rw[z,he] at q;cases q) (tr b _ q)];exact q
 · rw[same b (fun z=>by rw[z,he] at q;cases q) (tr b _ q)];rw[q];simp
 · by_cases z:b=e
   · subst z;rw[AG] at q;cases q;exact oP q1
   · by_cases z2:b=dx
     · subst z2
       rw[AF z,AG] at q
       cases q
       refine⟨_,q2,fun f=>?_⟩
       by_cases hf:f=fn
       · subst hf;simp[List.lookup];exact ry
       · have:(f==fn)=false:=by simp[hf]
         simp[List.lookup,this,hf,RelO]
     · rw[same b z z2] at q
       refine(I.hok b o q).stay (fun c v hc qq=>k c v ?_ qq) (fun c qq=>?_) fun c xs qq=>?_
       · rcases hc with rfl | hc
         · exact z
         · rintro rfl;rw[he] at hc;cases hc
       · rw[same c (fun z=>by rw[z,he] at qq;cases qq) (tr c _ qq)];exact qq
       · rw[same c (fun z=>by rw[z,he] at qq;cases qq) (tr c _ qq)];exact qq
theorem mT {C S:Addr}{init:Value}{fn:Str}{o value:Expr}{pos pos':Pos}{ta tv:TE}(c:XCls X.K C S init) (cs:XSet X.K C fn) (ha:PE X o ta) (hv:PE X value tv) (hs:swapsWith value (some (.Attribute o fn pos')) pos.line X.env=pure false) :
   PS X (.Assign [.Attribute o fn pos'] value pos) (sX C fn ta tv):=by
 intro pins s σ H D I h
 refine plainObj_wpAny_Assign_Attribute (thn (hv pins s σ H _ I h) fun u s1 ⟨y,H1,I1,ry,q⟩=>thn (ha pins s1 σ H1 _ I1 q) fun ov s2 ⟨x,H2,I2,rx,e,t,ex,ea,q2⟩=>?_) hs
 subst ex
 obtain rfl:ov=a0X e:=rx
 obtain⟨nm,q,N,bs,sn,sub,ab,col,dd,k0,k1,k2,k3,k5,lk⟩:=c.lk
 have hx:=(I2.hok e _ ea).1
 refine mP (cd:={ name:=nm,bases:=bs,mro:=.ref C::.ref S::bmV,ns:=N,qualname:=q,hasDict:=true,slotNames:=sn,subclasses:=sub,abstract:=ab,collection:=col,hasDel:=false }) I2.kIn hx rfl rfl rfl cs.sa (by unfold PySem.W.clsIn;rw[lk]) (by rw[a1K,a1K];rfl)
   (fun self=>by show refuseLoop self "__setattr__" (.ref C::.ref S::bmV)=pure ();rw[refuseLoop_ref,refuseLoop_ref];exact PySem.F.store_ValueError.passes self) cs.ta rfl fun h' tk' dx z1 z2 z3 z4=>?_
 have hdn:H2 dx=none:=I2.hok.fresh z1
 have hne:dx≠e:=fun z=>by rw[z,ea] at hdn;cases hdn
 exact⟨σ,_,iJ (t':=tk') I2 ea ry z1 z2 z3 z4,q2 dx hdn hne⟩
end
def P3 (C:Addr) (fn:Str):Sp:=fun vs H Q _=>∃e v t,vs=[.ref e,v]/\H e=some (xo e C t none)/\∀d,H d=none->d≠e->Q .non (upd (upd H d (.xd [(fn,v)])) e (xo e C t (some d)))
theorem XZ {X:Cx}{pins:List (Addr×Obj)}{σ:St}{H:Hp}{s:Shared}{e C t:Addr}{dx:Option Addr}(I:Inv X pins σ (upd H e (xo e C t dx)) s) (hn:H e=none) (ha:X.s₀.heap.objs.size<=e):Inv X pins σ H s:=by
 have B:=I.base
 have sm:∀b,b≠e->upd H e (xo e C t dx) b=H b:=fun b z=>AF z
 have ne:∀b o,X.s₀.heap.get? b=some o->b≠e:=fun b o q z=>by rw[z] at q;exact absurd (zP (zM q) ha) (yF _)
 have nn:∀b,upd H e (xo e C t dx) b=none->H b=none:=fun b q=>by
   by_cases z:b=e
   · rw[z];exact hn
   · rw[sm b z] at q;exact q
 have nt:∀{b o},upd H e (xo e C t dx) b=some o->o≠xo e C t dx->H b=some o:=fun {b o} q no=>by
   by_cases z:b=e
   · rw[z,AG] at q;cases q;exact absurd rfl no
   · rw[sm b z] at q;exact q
 refine⟨I.ok,I.os,I.bare,⟨B.keep,B.slot,fun b o q n hx=>nn b (B.free b o q n hx),B.there,fun b xs q=>nt (B.tups b xs q) (by unfold xo;simp),fun b o xs q=>nt (B.frzs b o xs q) (by unfold xo;simp),fun b ps q=>?_⟩,I.loc,I.cell,nn _ I.free,fun x c q=>nn _ (I.freeC x c q),fun p hp=>?_,fun b o q=>?_,I.len⟩
 · obtain⟨m,q'⟩:=B.tbls b ps q
   exact⟨m,nt q' (by unfold xo;simp)⟩
 · obtain⟨a1,a2,a3⟩:=I.pin p hp
   exact⟨a1,nn _ a2,a3⟩
 · have z:b≠e:=fun z=>by rw[z,hn] at q;cases q
   have q':upd H e (xo e C t dx) b=some o:=by rw[sm b z];exact q
   exact(I.hok b o q').stay (fun _ _ _ a=>a) (fun c a=>nt a (by unfold xo;simp)) fun c xs a=>nt a (by unfold xo;simp)
section
variable {X:Cx}{R:St->XK}{C S f:Addr}{x fn:Str}{np cpos pos:Pos}{arg:Expr}{t:TA}{k:Nat}{fd:FuncData}{ps:List Str}
def T0 (C:Addr) (fn:Str) (R:St->XK) (t:TA):TS:=fun _ σ H=>t σ H fun vs H1=>∃v,vs=[v]/\∀d,H1 d=none->R σ (.ref C) (some d) (upd H1 d (.xd [(fn,v)]))
theorem bY (c:XCls X.K C S (.ref f)) (hfn:PySem.W.isFn X.K (.ref f)=true) (F:FnOk X.prog X.w X.K X.mg X.base CX0 k f fd ps (P3 C fn)) (hb:Binds X.K fd ps []) (hr:Room (k+1) X.A) (hg:Gl X x) (hm:X.mg x=some (.ref C))
   (ha:PA (X.wish (Fly X R)) [arg] t) (hdb:(x==("__debug__":Str))=false:=by decide) (he:starEach [arg] X.env=[(false,eval arg X.env)]:=by rfl) :
   PS (X.wish (Fly X R)) (.Raise (some (.Call (.Name x np) [arg] [] cpos)) none pos) (T0 C fn R t):=by
 intro pins s σ H D I h
 have FB:=PySem.F.excBase_ValueError
 obtain⟨nm,q,N,bs,sn,sub,ab,col,dd,k0,k1,k2,k3,k5,lk⟩:=c.lk
 rw[arm_exec_Raise]
 refine zZ (wpAny_standAt (bX (C:=C) (hbase:=iI (S:=S)) (hh:=hr.hd) (nm:=nm) (q:=q) (N:=N) (bs:=bs) (hdct:=true) (sn:=sn) (sub:=sub) (ab:=ab) (col:=col) (dd:=dd) (k0:=k0) (k1:=k1) (k2:=k2) (k3:=k3) (k5:=k5) (newId:= "ValueError.__new__") ?_))
 refine zZ (thn (wpAny_Call_Name_kw (IS I (X:=X.wish (Fly X R)) hg hm (PySem.W.callWith_K (h₀:=X.base) I.ok.mod.kin c.kp (Q:=fun v s₁=>∃e t dx,v = .ref e/\s₁.heap.get? C=some (excClassObj nm q C N bs (.ref S::bmV) true sn sub ab col dd k0 k1 k2 k3 k5 "ValueError.__new__") /\
     s₁.heap.get? e=some { cls:=.ref C,dict:=dx,data:=.fields #[.ref t,.none,.none,.none,.bool false,.none] }/\Fly X R (.ref e) s₁) (thn (ha cpos pins s σ H _ I h) fun us s1 ⟨vs,H1,I1,r,v,ev,q1⟩=>⟨I1.kIn,?_⟩) he rfl) hdb)) fun v s3 h3=>zZ (wpAny_standAt (zY h3)))
 subst ev
 obtain⟨u,rfl,ru⟩:∃u,us=[u]/\RelV v u:=by cases r with | cons a b=>cases b;exact⟨_,rfl,a⟩
 have I0:=I1.unwish
 have hC:=I0.kIn _ _ lk
 obtain⟨hp,g,d,tk,os⟩:=s1
 have kk:=GM (h:=hp) (C:=C) (rest:=[u])
 have hat:=ZR (h:=hp) (C:=C) (rest:=[u])
 have I2:Inv X pins σ (upd H1 (hp.objs.size+1) (xo (hp.objs.size+1) C hp.objs.size none)) ⟨PZ hp C [u],g,d,tk,os⟩:=I0.laid (a:=hp.objs.size+1) (t':=tk) kk (a8V _) (oP hat)
 have hen:H1 (hp.objs.size+1)=none:=I0.hok.fresh (a8V _)
 have r2:Vals [V.ref (hp.objs.size+1),v] [a0X (hp.objs.size+1),u]:=.cons rfl (.cons ru .nil)
 have hsp:P3 C fn [V.ref (hp.objs.size+1),v] (upd H1 (hp.objs.size+1) (xo (hp.objs.size+1) C hp.objs.size none))
     (fun w H2=>w = .non/\∃d',H1 d'=none/\d'≠hp.objs.size+1/\H2=upd (upd H1 d' (.xd [(fn,v)])) (hp.objs.size+1) (xo (hp.objs.size+1) C hp.objs.size (some d'))) (fun _ _ _=>False):=by
   refine⟨_,v,hp.objs.size,rfl,AG,fun d' hd' hne=>⟨rfl,d',by rw[AF hne] at hd';exact hd',hne,?_⟩⟩
   funext b
   unfold upd
   by_cases z:b=hp.objs.size+1 <;> simp[z]
 have hl:([a0X (hp.objs.size+1),u]++[]).length=ps.length:=by
   have:=F.len _ _ _ _ hsp
   simpa using this
 refine rZ FB mQ mR mS hC (PySem.W.looks_findIn I0.kIn c.init) (fun self=>PySem.W.bind_fn I0.kIn self (beq_iff_eq.mp hfn)) (xN (F.run _ X.stack _ _ ⟨[a0X (hp.objs.size+1),u],[]⟩ ([a0X (hp.objs.size+1),u]++[]) _ _ _ (hr.make C [u] []) (I2.env0.make C [u] []) (hb _ [a0X (hp.objs.size+1),u] I2.kIn hl) r2 hsp) fun r' s' hq'=>?_) (by show 1<=sizeLine;decide)
 rcases r' with e | (w | _ | _ | _) <;> first | exact hq'.elim | skip
 obtain⟨w',H2,I3,rw',rfl,d',hd1,hd2,rfl⟩:=I2.after hq'
 have hx:=(I3.hok _ _ AG).1
 have hen':(upd H1 d' (.xd [(fn,v)])) (hp.objs.size+1)=none:=by rw[AF (a8J hd2)];exact hen
 have ab':X.s₀.heap.objs.size<=hp.objs.size+1:=zN I0.sz (a8V _)
 have I4:=XZ I3 hen' ab'
 refine⟨rw',hp.objs.size+1,hp.objs.size,some d',rfl,I3.kIn _ _ lk,hx,hp.objs.size+1,none,.ref C,some d',.ref hp.objs.size,σ,_,.none,rfl,iE I4,⟨⟨_,_,hx,rfl,rfl,rfl,rfl,rfl⟩,.inl rfl⟩,Loose.of I0 (a8V _) hen',fun t e=>(by cases e),q1 d' hd1⟩
end
end XC
namespace XC
open PySem PySem.Spec L2
open PyProof.Rows (envOfC AllBare)
def XM (K:Frg) (C D:Addr):Prop:=∀(prog:Program) (w:World) (A:Around) (E:Value->Shared->Prop) (s:Shared) (e:Addr) (oe:Obj) (Q:Bool->Shared->Prop),K.In s.heap->s.heap.get? e=some oe->oe.cls = .ref C->Q true s ->
 wpAny (model prog w) A (excMatches (.ref e) (.ref D)) Q E s
structure XTop (K:Frg) (S:Addr):Prop where
 lk:∃(nm q:Str) (N:Addr) (bs:List Value) (sn:List Str) (sub:List Value) (ab:Bool) (col:Option Bool) (dd:Option Addr) (k0 k1 k2 k3 k5:Option Value),K.lookup S=some (excClassObj nm q S N bs bmV true sn sub ab col dd k0 k1 k2 k3 k5 "ValueError.__new__")
theorem sC {K:Frg}{C S:Addr}{init:Value}(c:XCls K C S init) (u:XTop K S):XM K C S:=fun prog w A E s e oe Q X he hc q=>by
 obtain⟨nm,q',N,bs,sn,sub,ab,col,dd,k0,k1,k2,k3,k5,lk⟩:=c.lk
 obtain⟨nm',q'',N',bs',sn',sub',ab',col',dd',j0,j1,j2,j3,j5,lk'⟩:=u.lk
 obtain⟨hp,g,d,t,os⟩:=s
 have hC:=X _ _ lk
 have hS:=X _ _ lk'
 have hcB:(a0X S::bmV).contains (.type "BaseException")=true:=by rw[a1K];rfl
 have hcC:(a0X C::a0X S::bmV).contains (.ref S)=true:=by rw[a1K,a1K];simp
 have f:=tc_notTuple
 have he':hp.get? e=some oe:=he
 unfold excMatches
 repeat (first | (with_reducible refine wpAny_loadPart_at he' ?_;rw[hc]) | with_reducible refine wpAny_loadPart_at hS ?_ | (with_reducible refine wpAny_isSubtype_exc hS ?_;rw[hcB]) | (with_reducible refine wpAny_isSubtype_exc hC ?_;rw[hcC]) | wp_step)
 exact q
abbrev bZ (X:Cx) (a:Addr):Cx:={ X with A:=X.A.mark (some (.ref a)),calm:=false,xe:=fun _ _=>False }
abbrev pinned (X:Cx) (pn:List (Addr×Obj)):Cx:={ X with pn:=pn }
section
variable {X:Cx}{pins:List (Addr×Obj)}{σ:St}{H:Hp}{s:Shared}{a:Addr}
theorem VS (I:Inv X pins σ H s) (a:Addr):Inv (bZ X a) pins σ H s:=
 ⟨⟨I.ok.mod,I.ok.kind,I.ok.glob,I.ok.blt,I.ok.above,I.ok.inj,I.ok.has,I.ok.cab,(fun z=>nomatch z),I.ok.frames,I.ok.stk,I.ok.exf,I.ok.bs,I.ok.bsz,I.ok.noex,I.ok.exfs,I.ok.funs,I.ok.frf⟩,I.os,I.bare,I.base,I.loc,I.cell,I.free,I.freeC,I.pin,I.hok,I.len⟩
theorem GO {X:Cx}(ok:X.Ok) (I:Inv (bZ X a) pins σ H s):Inv X pins σ H s:=
 ⟨ok,I.os,I.bare,I.base,I.loc,I.cell,I.free,I.freeC,I.pin,I.hok,I.len⟩
theorem mU (I:Inv X pins σ H s):Inv (pinned X (X.pn++pins)) [] σ H s:=
 ⟨⟨I.ok.mod,I.ok.kind,I.ok.glob,I.ok.blt,I.ok.above,I.ok.inj,I.ok.has,I.ok.cab,I.ok.hd,I.ok.frames,I.ok.stk,I.ok.exf,I.ok.bs,I.ok.bsz,I.ok.noex,I.ok.exfs,I.ok.funs,I.ok.frf⟩,I.os,I.bare,I.base,I.loc,I.cell,I.free,I.freeC,fun p hp=>I.pin p (by simpa using hp),I.hok,I.len⟩
theorem FX {X:Cx}(ok:X.Ok) (I:Inv (pinned X (X.pn++pins)) [] σ H s):Inv X pins σ H s:=
 ⟨ok,I.os,I.bare,I.base,I.loc,I.cell,I.free,I.freeC,fun p hp=>I.pin p (by simpa using hp),I.hok,I.len⟩
theorem iK {X:Cx}(ok:X.Ok) {D:Ends}{f:Flow}{s':Shared}(h:SP (pinned X (X.pn++pins)) [] D f s'):SP X pins D f s':=by
 cases f with
 | next=>obtain⟨σ',H',I,q⟩:=h;exact⟨σ',H',FX ok I,q⟩
 | brk=>obtain⟨σ',H',I,q⟩:=h;exact⟨σ',H',FX ok I,q⟩
 | cont=>obtain⟨σ',H',I,q⟩:=h;exact⟨σ',H',FX ok I,q⟩
 | ret u=>obtain⟨v,σ',H',I,r,q⟩:=h;exact⟨v,σ',H',FX ok I,r,q⟩
theorem c5 {X:Cx}(ok:X.Ok) {D:Ends}{f:Flow}{s':Shared}(h:SP (bZ X a) pins D f s'):SP X pins D f s':=by
 cases f with
 | next=>obtain⟨σ',H',I,q⟩:=h;exact⟨σ',H',GO ok I,q⟩
 | brk=>obtain⟨σ',H',I,q⟩:=h;exact⟨σ',H',GO ok I,q⟩
 | cont=>obtain⟨σ',H',I,q⟩:=h;exact⟨σ',H',GO ok I,q⟩
 | ret u=>obtain⟨v,σ',H',I,r,q⟩:=h;exact⟨v,σ',H',GO ok I,r,q⟩
end
end XC
namespace DL
open PySem PySem.Spec L2 XC
open PyProof.Rows (envOfC AllBare)
abbrev Rx:=L2.St->XK
theorem XI.sub {K:Frg}{H:Hp}{M M':Own}(hs:M'.Sub M) {dd:Option Addr}{fs:List (Str×PyData)}(h:XI K H M.W dd fs):XI K H M'.W dd fs:=h.grow (B6 hs)
abbrev DXK:=List (Option DS)->Value->List (Str×PyData)->Own->Prop
def KX (K:Frg) (R:Rx) (M:Own) (H:Hp) (DX:DXK):Prop:=∀(ρ':List (Option DS)) (cls:Value) (fs:List (Str×PyData)) (M':Own) (σ':St) (dd:Option Addr) (H':Hp),Rel K M' ρ' σ' H'->Step K M M' H H'->XI K H' M'.W dd fs->DX ρ' cls fs M'->R σ' cls dd H'
theorem KX.step {K:Frg}{R:Rx}{M M1:Own}{H H1:Hp}{DX:DXK}(k:KX K R M H DX) (t:Step K M M1 H H1):KX K R M1 H1 DX:=fun a b c d e f g h i j l=>k a b c d e f g h (t.trans i) j l
def DXt (K:Frg) (R:Rx) (t:TS) (ρ:List (Option DS)) (M:Own) (D:EndsD) (DX:DXK):Prop:=
 ∀(σ:St) (H:Hp) (E:Ends),Rel K M ρ σ H->(∀ρ' M' σ' H',Rel K M' ρ' σ' H'->Step K M M' H H'->D.nx ρ' M'->E.nx σ' H')->(∀v H' x M',OA K H' M'->SI K H' M' x v->Step K M M' H H'->D.rt x M'->E.rt v H') ->
   (∀ρ' M' σ' H',Rel K M' ρ' σ' H'->Step K M M' H H'->D.bk ρ' M'->E.bk σ' H')->(∀ρ' M' σ' H',Rel K M' ρ' σ' H'->Step K M M' H H'->D.ct ρ' M'->E.ct σ' H')->KX K R M H DX->t E σ H
def DEx (K:Frg) (R:Rx) (t:TE) (ρ:List (Option DS)) (M:Own) (Q:DS->Own->Prop) (DX:DXK):Prop:=
 ∀(σ:St) (H:Hp) (QQ:VK),Rel K M ρ σ H->(∀v H' x M',OA K H' M'->SI K H' M' x v->Step K M M' H H'->Q x M'->QQ v H')->KX K R M H DX->t σ H QQ
structure FSpX where
 pre:List DS->Own->Prop
 post:List DS->Own->DS->Own->Prop
 xpost:List DS->Own->Value->List (Str×PyData)->Own->Prop
def spX (K:Frg) (n:Nat) (S:FSpX):Sp:=fun vs H Q E=>∃xs M,xs.length=n/\OA K H M/\SIs K H M xs vs/\S.pre xs M/\(∀x M' v H',S.post xs M x M'->Step K M M' H H'->OA K H' M'->SI K H' M' x v->Q v H') /\
 ∀cls fs M' dd H',S.xpost xs M cls fs M'->Step K M M' H H'->OA K H' M'->XI K H' M'.W dd fs->E cls dd H'
section
variable {K:Frg}{R:Rx}{ρ:List (Option DS)}{M:Own}{D:EndsD}{DX:DXK}{t u:TS}{ta:TE}{tl:TA}{tA:TT}{Q:DS->Own->Prop}
theorem GP (h:DSt K t ρ M D):DXt K R t ρ M D DX:=fun σ H E Rl k1 k2 k3 k4 _=>h σ H E Rl k1 k2 k3 k4
theorem sD (h:DXt K R t ρ M { D with nx:=fun ρ1 M1=>DXt K R u ρ1 M1 D DX } DX):DXt K R (jT t u) ρ M D DX:=fun σ H E Rl k1 k2 k3 k4 k5=>by
 refine h σ H { E with nx:=fun σ' H'=>u E σ' H' } Rl (fun ρ1 M1 σ1 H1 R1 t1 q=>?_) k2 k3 k4 k5
 exact q σ1 H1 E R1 (fun a b c d e f g=>k1 a b c d e (t1.trans f) g) (fun a b c d e f g q=>k2 a b c d e f (t1.trans g) q) (fun a b c d e f g=>k3 a b c d e (t1.trans f) g) (fun a b c d e f g=>k4 a b c d e (t1.trans f) g) (k5.step t1)
theorem uP (h:DT K tA ρ M fun c M1=>if c=true then DXt K R t ρ M1 D DX else DXt K R u ρ M1 D DX):DXt K R (pE tA t u) ρ M D DX:=fun σ H E Rl k1 k2 k3 k4 k5=>
 h σ H _ Rl fun c H1 M1 o1 t1 h1=>by
   have go:∀{w:TS},DXt K R w ρ M1 D DX->w E σ H1:=fun q=>q σ H1 E (Rl.step o1 t1) (fun a b c d e f g=>k1 a b c d e (t1.trans f) g) (fun a b c d e f g q=>k2 a b c d e f (t1.trans g) q) (fun a b c d e f g=>k3 a b c d e (t1.trans f) g) (fun a b c d e f g=>k4 a b c d e (t1.trans f) g) (k5.step t1)
   cases c with
   | true=>rw[if_pos rfl] at h1 ⊢;exact go h1
   | false=>rw[if_neg nft] at h1 ⊢;exact go h1
theorem c6 {C:Addr}{fn:Str}(h:DA K tl ρ M fun xs M1=>∃d,xs=[.d d]/\DX ρ (.ref C) [(fn,d)] M1):DXt K R (T0 C fn R tl) ρ M D DX:=fun σ H E Rl _ _ _ _ k5=>
 h σ H _ Rl fun vs H1 xs M1 o1 s1 t1 ⟨d,ex,q⟩=>by
   subst ex
   obtain⟨v,r,rfl,sv,rfl⟩:=s1
   refine⟨v,rfl,fun p hp=>?_⟩
   have g:Step K M1 M1 H1 (upd H1 p (.xd [(fn,v)])):=⟨AW _ hp⟩
   exact k5 ρ _ [(fn,d)] M1 σ (some p) _ ((Rl.step o1 t1).step (o1.new hp) g) (t1.trans g) ⟨v,fun z=>z (o1.none hp),AG,DV.grow g.grow sv⟩ q
theorem P4 {n:Nat}{S:FSpX}(h:DA K tl ρ M fun xs M1=>xs.length=n/\S.pre xs M1/\(∀x M',S.post xs M1 x M'->Q x M')/\∀cls fs M',S.xpost xs M1 cls fs M'->DX ρ cls fs M'):DEx K R (SZ (spX K n S) R tl) ρ M Q DX:=fun σ H QQ Rl k k5=>
 h σ H _ Rl fun vs H1 xs M1 o1 s1 t1 ⟨h0,h1,h2,h3⟩=>
   ⟨xs,M1,h0,o1,s1,h1,fun x M' v H' p st oa si=>k v H' x M' oa si (t1.trans st) (h2 x M' p),fun cls fs M' dd H' p st oa xi=>k5 ρ cls fs M' σ dd H' ((Rl.step o1 t1).step oa st) (t1.trans st) xi (h3 cls fs M' p)⟩
theorem mV (h:DEx K R ta ρ M (fun _ M1=>D.nx ρ M1) DX):DXt K R (cX ta) ρ M D DX:=fun σ H E Rl k1 _ _ _ k5=>h σ H _ Rl (fun v H' x M' a b c q=>k1 ρ M' σ H' (Rl.step a c) c q) k5
end
section
variable {P:Program}{w:World}{K:Frg}{mg:Str->Option Value}{base:Heap}
theorem mW {n:Nat}{S:FSpX}:∀vs H Q E,spX K n S vs H Q E->vs.length=n:=fun vs H Q E ⟨xs,M,hl,_,h,_⟩=>by rw[h.length,hl]
theorem w6 {x qual:Str}{st:Stmt}{f:Addr}{fd:FuncData}{N ps:List Str}{k:Nat}{S:FSpX}(F:Fun K x qual st f fd) (Sc:FnScope N ps (AC st))
   (hbody:∀(cdv:Value) (A:Around) (outer:List Env) (s:Shared) (H:Hp) (E:XK),Room k (A.deeper (envOfC qual (AC st) s.heap.objs.size f cdv)) ->
     ∃t,PSs ((K7 (CXE P w) P w K mg base N qual (AC st) f cdv A outer s H E).wish (Fly (K7 (CXE P w) P w K mg base N qual (AC st) f cdv A outer s H E) fun _=>E)) (BJ st) t /\
       ∀xs M,xs.length=ps.length->S.pre xs M->DXt K (fun _=>E) t (NX N xs) M { nx:=fun _ M1=>∃M2:Own,M2.Sub M1/\S.post xs M (.d .none) M2,rt:=fun y M1=>∃M2:Own,M2.Sub M1/\S.post xs M y M2 } fun _ cls fs M1=>∃M2:Own,M2.Sub M1/\S.xpost xs M cls fs M2) :
   FnOk P w K mg base (CXE P w) (k+1) f fd ps (spX K ps.length S):=by
 refine vZ F Sc mW fun cdv A outer s H vs Q E hr h=>?_
 obtain⟨t,ht,hq⟩:=hbody cdv A outer s H E hr
 obtain⟨xs,M,hl,oa,si,pre,post,xpost⟩:=h
 refine⟨t,ht,hq xs M hl pre (L2.EZ N vs) H _ (QT oa si) ?_ ?_ (fun _ _ _ _ _ _ z=>z.elim) (fun _ _ _ _ _ _ z=>z.elim) ?_⟩
 · rintro ρ' M1 σ' H' R st ⟨M2,hs,p⟩
   exact post (.d .none) M2 .non H' p (st.trans ⟨B6 hs⟩) (R.own.sub hs) (by unfold SI DV;rfl)
 · rintro v H' y M1 o s1 st ⟨M2,hs,p⟩
   exact post y M2 v H' p (st.trans ⟨B6 hs⟩) (o.sub hs) (s1.sub hs)
 · rintro ρ' cls fs M1 σ' dd H' R st xi ⟨M2,hs,p⟩
   exact xpost cls fs M2 dd H' p (st.trans ⟨B6 hs⟩) (R.own.sub hs) (xi.sub hs)
structure HasX (P:Program) (w:World) (K:Frg) (mg:Str->Option Value) (base:Heap) (x:Str) (k:Nat) (ps:List Str) (S:FSpX):Prop where
 ex:∃f fd,FnOk P w K mg base (CXE P w) k f fd ps (spX K ps.length S)/\mg x=some (.ref f)/\a3J K (.ref f)=true/\Binds K fd ps []
theorem c7 {X:Cx}{R:Rx}{x:Str}{k:Nat}{ps:List Str}{S:FSpX}{e:Expr}{es:List Expr}{t:TA}{p pos:Pos}(h:HasX X.prog X.w X.K X.mg X.base x k ps S) (hr:Room k X.A) (hg:Gl X x) (ha:PA (X.wish (Fly X R)) (e::es) t)
   (hdb:(x==("__debug__":Str))=false:=by decide) (he:starEach (e::es) X.env=(false,eval e X.env)::starEach es X.env:=by rfl) (hpl:(backTo pos (starEach es X.env)).any (·.1)=false:=by rfl) :
   PE (X.wish (Fly X R)) (.Call (.Name x p) (e::es) [] pos) (SZ (spX X.K ps.length S) R t):=by
 obtain⟨f,fd,F,hm,hk,hb⟩:=h.ex
 exact iG F hr hg hm hk hb ha hdb he hpl
end
end DL
namespace DL
open PySem PySem.Spec L2 XC
open PyProof.Rows (envOfC AllBare)
def P5 (k:Nat):Stmt->Stmt
 | .ClassDef _ _ _ b _ _ _ _ _ _ _=>b.getD k (.Pass ⟨0,0,0,0⟩)
 | _=>.Pass ⟨0,0,0,0⟩
section
variable {P:Program}{w:World}{K:Frg}{mg:Str->Option Value}{base:Heap}
theorem sE (X:Cx) (R:Rx) {x:Str}{k:Nat}{ps:List Str}{S:FSpX}{e:Expr}{es:List Expr}{t:TA}{p pos:Pos}(hK:X.K=K) (hP:X.prog=P) (hw:X.w=w) (hmg:X.mg=mg) (hbs:X.base=base)
   (h:HasX P w K mg base x k ps S) (hr:Room k X.A) (hg:Gl X x) (ha:PA (X.wish (Fly X R)) (e::es) t)
   (hdb:(x==("__debug__":Str))=false:=by decide) (he:starEach (e::es) X.env=(false,eval e X.env)::starEach es X.env:=by rfl) (hpl:(backTo pos (starEach es X.env)).any (·.1)=false:=by rfl) :
   PE (X.wish (Fly X R)) (.Call (.Name x p) (e::es) [] pos) (SZ (spX K ps.length S) R t):=by
 subst hK hP hw hmg hbs
 exact c7 h hr hg ha hdb he hpl
structure HasR (P:Program) (w:World) (K:Frg) (mg:Str->Option Value) (base:Heap) (x fn:Str) (C S:Addr):Prop where
 ex:∃(f:Addr) (fd:FuncData) (ps:List Str),XCls K C S (.ref f)/\PySem.W.isFn K (.ref f)=true/\FnOk P w K mg base CX0 1 f fd ps (P3 C fn)/\Binds K fd ps []/\mg x=some (.ref C)
theorem mX (X:Cx) (R:Rx) {x fn:Str}{C S:Addr}{arg:Expr}{t:TA}{np cpos pos:Pos}(hK:X.K=K) (hP:X.prog=P) (hw:X.w=w) (hmg:X.mg=mg) (hbs:X.base=base)
   (h:HasR P w K mg base x fn C S) (hr:Room 2 X.A) (hg:Gl X x) (ha:PA (X.wish (Fly X R)) [arg] t) (hdb:(x==("__debug__":Str))=false:=by decide) (he:starEach [arg] X.env=[(false,eval arg X.env)]:=by rfl) :
   PS (X.wish (Fly X R)) (.Raise (some (.Call (.Name x np) [arg] [] cpos)) none pos) (T0 C fn R t):=by
 subst hK hP hw hmg hbs
 obtain⟨f,fd,ps,c,hf,F,hb,hm⟩:=h.ex
 exact bY c hf F hb hr hg hm ha hdb he
theorem mY {qual fn pn:Str}{st:Stmt}{f C S:Addr}{fd:FuncData}{p1 p2 p3 p4:Pos}(F:Fun K "__init__" qual st f fd) (Sc:FnScope ["self", pn] ["self", pn] (AC st)) (hb:BJ st=[.Assign [.Attribute (.Name "self" p1) fn p2] (.Name pn p3) p4])
   (c:XCls K C S (.ref f)) (cs:XSet K C fn) (nd:(["self", pn]:List Str).Nodup) (hs:∀env:Env,swapsWith (.Name pn p3) (some (.Attribute (.Name "self" p1) fn p2)) p4.line env=pure false)
   (h0:∀X:Cx,X.N=(["self", pn]:List Str)->X.env.scope=AC st->PE X (.Name "self" p1) (aD 0)) (h1:∀X:Cx,X.N=(["self", pn]:List Str)->X.env.scope=AC st->PE X (.Name pn p3) (aD 1)):FnOk P w K mg base CX0 1 f fd ["self", pn] (P3 C fn):=by
 refine F.ok Sc (fun vs H Q E ⟨e,v,t,h,_⟩=>by rw[h];rfl) fun cdv A outer s H vs Q E hr ⟨e,v,t,ev,he,hq⟩=>?_
 subst ev
 rw[hb]
 refine⟨_,RU (mT (C:=C) (S:=S) (fn:=fn) c cs (h0 _ rfl rfl) (h1 _ rfl rfl) (hs _)),?_⟩
 exact⟨v,rfl,.ref e,rfl,e,t,rfl,he,fun d hd hne=>hq d hd hne⟩
end
end DL
namespace DL
open PySem PySem.Spec L2
section
variable {K:Frg}{ρ:List (Option DS)}{M:Own}{H:Hp}{Q:DS->Own->Prop}{QI:List PyData->Own->Prop}{tl td ty tx:TE}{D:EndsD}{t:TS}
theorem Y0 {ts:List (Str×PyData)}(nd:(ts.map (·.1)).Nodup) (hl:ts.length<=sizeLine) (q:∀p,M p=none->Q (.loc p) (M.put p (.d (AS ts)))):DR K (SQ K) [.d (.list (ts.map ZJ))] M Q:=fun H vs QQ oa s k=>by
 obtain⟨v,r,rfl,h1,h2⟩:=s
 cases h2
 unfold SI DV at h1
 obtain⟨a,vs,rfl,hw,hd⟩:=h1
 obtain⟨es,rfl,e3,e4⟩:=R8 hd
 have hk:=OI e4
 have hlen:es.length=ts.length:=by have:=NB e4;unfold AS at this;simpa using this
 refine⟨a,es,rfl,hw.sq,e3,by rw[hlen];exact hl,fun p hp=>?_⟩
 have nd2:((es.map (·.2)).map (·.1)).Nodup:=by
   rw[hk]
   unfold List.Nodup
   rw[a4Z]
   exact nd.imp fun {a b} q e=>q (by injection e)
 rw[HV _ [] (by simpa using nd2),List.nil_append]
 obtain⟨o2,t2⟩:=NY oa hp e4
 exact k _ _ (.loc p) _ o2 rfl t2 (q p (oa.none hp))
end
end DL
namespace XC
open PySem PySem.Spec L2
open PyProof.Rows (envOfC AllBare)
theorem c8 {X:Cx}{pins:List (Addr×Obj)}{σ:St}{H:Hp}{s:Shared}{a:Addr}{o:HO}(I:Inv X pins σ H s) (hn:H a=none) (ha:X.s₀.heap.objs.size<=a) (hl:a≠X.env.locals) (hc:∀x c,X.env.cells.lookup x=some c->c≠a) (hp:∀p∈X.pn++pins,p.1≠a)
   (new:ObjOk X.prog X.w (upd H a o) s.heap a o):Inv X pins σ (upd H a o) s:=by
 have B:=I.base
 have sm:∀b u,H b=some u->upd H a o b=some u:=fun b u q=>by rw[AF (fun z=>by rw[z,hn] at q;cases q)];exact q
 have ne:∀b u,X.s₀.heap.get? b=some u->b≠a:=fun b u q z=>by rw[z] at q;exact absurd (zP (zM q) ha) (yF _)
 refine⟨I.ok,I.os,I.bare,⟨B.keep,B.slot,fun b u q n hx=>by rw[AF (ne b u q)];exact B.free b u q n hx,B.there,fun b xs q=>sm _ _ (B.tups b xs q),fun b u xs q=>sm _ _ (B.frzs b u xs q),fun b ps q=>?_⟩,I.loc,I.cell,by rw[AF hl.symm];exact I.free,fun x c q=>by rw[AF (hc x c q)];exact I.freeC x c q,fun p hq=>?_,fun b u q=>?_,I.len⟩
 · obtain⟨m,q'⟩:=B.tbls b ps q
   exact⟨m,sm _ _ q'⟩
 · obtain⟨a1,a2,a3⟩:=I.pin p hq
   exact⟨a1,by rw[AF (hp p hq)];exact a2,a3⟩
 · by_cases z:b=a
   · subst z;rw[AG] at q;cases q;exact new
   · rw[AF z] at q
     exact(I.hok b u q).stay (fun _ _ _ q=>q) (fun c q=>sm _ _ q) fun c xs q=>sm _ _ q
theorem NG {X:Cx}{pins:List (Addr×Obj)}{σ:St}{H:Hp}{s:Shared}{M:Model}{A:Around}{E:Value->Shared->Prop}{i:Nat}{x:Str}{pos:Pos}{Q:Unit->Shared->Prop}(I:Inv X pins σ H s) (hN:X.N.Nodup) (hi:X.N[i]?=some x) (hk:X.env.kindOf x=some .local)
   (h:∀s',Inv X pins (σ.set i none) H s'->Q () s'):wpAny M A (do bindName X.env x .none;unbindBehindTheSuite X.env x pos) Q E s:=by
 obtain⟨m,hn,hl⟩:=id I.loc
 have hcls:(X.env.scope.kind==.class||(X.env.scope.kind==.module&&X.env.locals != X.env.globals))=false:=by rw[I.ok.kind];rfl
 have cne:=I.cne
 refine wpAny_nameGoes_keeps hk hn hcls fun h' v hn' hs=>?_
 obtain⟨oL,_,_,hoL,_⟩:=id hn
 refine h _ ⟨I.ok,I.os,I.bare,⟨fun b o e n hb hx=>?_,fun b o e n hb hx=>?_,I.base.free,fun b o e hx=>?_,I.base.tups,I.base.frzs,I.base.tbls⟩,⟨_,hn',fun j y v' e1 e2 e3=>?_⟩,fun y c e=>?_,I.free,I.freeC,fun p hp=>?_,fun b ob e=>?_,by rw[b2W];exact I.len⟩
 · exact(hs.2 b (zC (zP (zM e) I.ok.above))).trans (I.base.keep b o e n hb hx)
 · obtain⟨sl,e1⟩:=I.base.slot b o e n hb hx
   exact⟨sl,(hs.2 b (zC (zP (zM e) I.ok.above))).trans e1⟩
 · obtain⟨o',e1⟩:=I.base.there b o e hx
   exact⟨o',(hs.2 b (zC (zP (zM e) I.ok.above))).trans e1⟩
 · by_cases hj:j=i
   · subst hj
     rw[b9Q] at e2
     simp at e2
   · rw[b1J (a8J hj)] at e2
     obtain⟨u',r',q⟩:=hl j y v' e1 e2 e3
     refine⟨u',r',?_⟩
     rcases q with ⟨k,e⟩ | ⟨k,c,e,z⟩
     · refine .inl ⟨k,?_⟩
       have:y≠x:=fun e=>hj (NK hN e1 (e▸hi))
       simp[this,e]
     · exact .inr ⟨k,c,e,z.sameBut hs (cne y c e)⟩
 · obtain⟨w',z⟩:=I.cell y c e
   exact⟨w',z.sameBut hs (cne y c e)⟩
 · obtain⟨e,n,ne,nf,d⟩:=I.pin p hp
   exact⟨(hs.2 p.1 ne).trans e,n,ne,nf,d⟩
 · refine(I.hok b ob e).stay (fun c w' hc q=>(hs.2 c ?_).trans q) (fun _ q=>q) fun _ _ q=>q
   rintro rfl
   rcases hc with rfl | hc
   · rw[I.free] at e;cases e
   · rw[I.free] at hc;cases hc
theorem sF {P:Program}{w:World}{H:Hp}{h:Heap}{a C:Addr}{dd:Option Addr}{ar:Value}{T:Option Addr}{fl:Value}(x:MW h a (.ref C) dd ar T fl):ObjOk P w H h a (DL.exK a C dd):=by
 obtain⟨oe,vs,he,hc,hd,hdt,_⟩:=x
 exact⟨⟨oe,vs,he,hc,hd,hdt⟩,⟨_,he⟩,fun _ _ ⟨o,v,a1,a2⟩ b=>⟨o,v,b _ a1,a2⟩⟩
def Y1 (K:Frg) (D:Addr) (i:Nat) (tb:(St->XK)->TS) (ts:TS):TS:=fun D' σ H=>tb (fun σ' cls dd H'=>∃C,cls = .ref C/\XM K C D /\
 ∀a,H' a=none->ts { nx:=fun σ2 H2=>D'.nx (σ2.set i none) H2,rt:=D'.rt,bk:=fun σ2 H2=>D'.bk (σ2.set i none) H2,ct:=fun σ2 H2=>D'.ct (σ2.set i none) H2 } (σ'.set i (some (.ref a))) (upd H' a (DL.exK a C dd))) D' σ H
theorem iL {X:Cx}{D:Addr}{i:Nat}{body:List Stmt}{b₀:Stmt}{suite:List Stmt}{x n:Str}{np hpos pos:Pos}{tb:(St->XK)->TS}{ts:TS}(hstk:X.stack=X.env::X.outer) (hfr:X.env.frame=some X.env.locals)
   (hN:X.N.Nodup) (hi:X.N[i]?=some n) (hk:X.env.kindOf n=some .local)
   (hg:Gl X x) (hm:X.mg x=some (.ref D)) (hb:∀(pn:List (Addr×Obj)) (R:St->XK),PSs ((pinned X pn).wish (Fly (pinned X pn) R)) body (tb R)) (hs:∀a,PSs (bZ X a) (b₀::suite) ts) (hdb:(x==("__debug__":Str))=false:=by decide) :
   PS X (.Try body [.ExceptHandler (some (.Name x np)) (some n) (b₀::suite) hpos] [] [] pos) (Y1 X.K D i tb ts):=by
 intro pins s σ H D' I h
 have ok:=I.ok
 refine wpAny_Try_except ?_
 have hbody:=hb (X.pn++pins) _ [] s σ H D' ((mU I).wish _) h
 refine wpAny_mono hbody (fun f s1 q=>?_) fun e s1 q=>?_
 · have q':=iK ok q.unwish
   cases f with
   | next=>exact wpAny_execs_nil q'
   | ret v=>exact q'
   | brk=>exact q'
   | cont=>exact q'
 · obtain⟨a,T,cls,dd,ar,σ',H',fl,rfl,J,⟨x1,hfl⟩,la,lT,⟨C,rfl,xm,r⟩⟩:=q
   have I1:=FX ok J
   have fr:X.A.frames=some (X.env::X.outer):=by rw[← hstk];exact ok.frames
   have hl:s1.heap.FunFrames X.base (X.env::X.outer):=by rw[← hstk];exact I1.stack
   refine VP fr hl hfr x1 hfl fun h2 T' x2 n2 m2=>?_
   have hfs:(X.env::X.outer).filterMap (·.frame)=frs X.stack:=by rw[hstk];rfl
   rw[hfs] at m2
   have lo:∀b,Loose (pinned X (X.pn++pins)) H' b->H' b=none/\X.s₀.heap.objs.size<=b/\b≠X.env.locals/\(∀x c,X.env.cells.lookup x=some c->c≠b)/\∀p∈X.pn++pins,p.1≠b:=fun b l=>⟨l.fre,l.above,l.loc,l.cel,l.pn⟩
   have I2:Inv X pins σ' H' { s1 with heap:=h2 }:=LT I1 m2 fun b hb=>by
     rcases yX.mp hb with q | q
     · rw[q];exact lo _ la
     · exact lo _ (lT b (by cases T with | none=>simp at q | some t=>simp at q;rw[q]))
   have lT':=lo _ (n2.elim (fun z=>lT T' z) fun z=>Loose.of (b:=T') J z.2 (J.hok.fresh z.2))
   refine LS (s:={ s1 with heap:=h2 }) x2 fun h3 x3 m3=>?_
   have I3:Inv X pins σ' H' { s1 with heap:=h3 }:=LT (s:={ s1 with heap:=h2 }) (ch:=[T']) I2 (m3.mono (fun b z=>absurd z (by simp)) fun b z=>z) fun b hb=>by
     have:b=T':=by simpa using hb
     rw[this];exact lT'
   have I4:=VS I3 a
   refine wpAny_handleBy_cons (codeAny_handlers_test (IS (X:=bZ X a) I4 hg hm ?_ hdb)) (by intro q;cases q)
   obtain⟨oe,vs,he,hc,_⟩:=id x3
   refine xm _ _ _ _ { s1 with heap:=h3 } a oe _ I3.kIn he hc (codeAny_handlers_suite_as ?_)
   refine LS (s:={ s1 with heap:=h3 }) x3 fun h4 x4 m4=>?_
   have I5:Inv X pins σ' H' { s1 with heap:=h4 }:=LT (s:={ s1 with heap:=h3 }) (ch:=[T']) I3 (m4.mono (fun b z=>absurd z (by simp)) fun b z=>z) fun b hb=>by
     have:b=T':=by simpa using hb
     rw[this];exact lT'
   obtain⟨q1,q2,q3,q4,q5⟩:=lo _ la
   have I6:Inv X pins σ' (upd H' a (DL.exK a C dd)) { s1 with heap:=h4 }:=c8 I5 q1 q2 q3 q4 q5 (sF x4)
   have hkl:Loc X.env.scope n:=.inl hk
   refine HM (X:=X) I6 hN hi hkl (v:=.ref a) (u:=.ref a) rfl (fun s5 I7=>?_) (.inr hk)
   refine wpAny_mono (hs a pins s5 _ _ _ (VS I7 a) (r a q1)) (fun f s' q=>?_) fun _ _ z=>a6Z z
   have q':=c5 ok q
   cases f with
   | next=>obtain⟨σ2,H2,I8,z⟩:=q';exact NG I8 hN hi hk fun s9 I9=>⟨_,_,I9,z⟩
   | brk=>obtain⟨σ2,H2,I8,z⟩:=q';exact NG I8 hN hi hk fun s9 I9=>⟨_,_,I9,z⟩
   | cont=>obtain⟨σ2,H2,I8,z⟩:=q';exact NG I8 hN hi hk fun s9 I9=>⟨_,_,I9,z⟩
   | ret u=>obtain⟨v,σ2,H2,I8,rv,z⟩:=q';exact NG I8 hN hi hk fun s9 I9=>⟨v,_,_,I9,rv,z⟩
end XC
namespace DL
open PySem PySem.Spec L2 XC
section
variable {K:Frg}{ρ:List (Option DS)}{M:Own}{H:Hp}{σ:St}{D:EndsD}
theorem iM {a C:Addr}{dd:Option Addr}{fs:List (Str×PyData)}(oa:OA K H M) (h:H a=b5J) (hd:XI K H M.W dd fs) :
   OA K (upd H a (exK a C dd)) (M.put a (.x C fs))/\Step K M (M.put a (.x C fs)) H (upd H a (exK a C dd)):=by
 have g:Grow K M.W (M.put a (.x C fs)).W H (upd H a (exK a C dd)):=⟨fun b u e _=>.inl (by rw[AF (AV e h)];exact e),fun b w=>by
   by_cases hb:b=a
   · subst hb;exact .inr h
   · left;unfold Own.W at w ⊢;rw[yH hb] at w;exact w⟩
 refine⟨fun b o e=>?_,⟨g⟩⟩
 by_cases ha:b=a
 · subst ha;rw[zU] at e;cases e;exact⟨dd,AG,hd.grow g⟩
 · rw[yH ha] at e
   have q:=oa b o e
   cases o with
   | l ds=>obtain⟨vs,q1,q2⟩:=q;exact⟨vs,by rw[AF ha];exact q1,q2.grow g⟩
   | d kvs=>obtain⟨vs,q1,q2⟩:=q;exact⟨vs,by rw[AF ha];exact q1,q2.grow g⟩
   | x C fs=>obtain⟨vs,q1,q2⟩:=q;exact⟨vs,by rw[AF ha];exact q1,q2.grow g⟩
theorem Rel.unset (R:Rel K M ρ σ H) (i:Nat):Rel K M (ρ.set i none) (σ.set i none) H:=by
 refine⟨R.own,by rw[b2W,b2W];exact R.len,fun j y e=>?_⟩
 rw[b9Q] at e ⊢
 by_cases hij:i=j
 · rw[if_pos hij] at e
   split at e <;> cases e
 · rw[if_neg hij] at e ⊢
   exact R.slot j y e
abbrev EndsD.gone (D:EndsD) (i:Nat):EndsD:={ nx:=fun ρ2 M2=>D.nx (ρ2.set i none) M2,rt:=D.rt,bk:=fun ρ2 M2=>D.bk (ρ2.set i none) M2,ct:=fun ρ2 M2=>D.ct (ρ2.set i none) M2 }
theorem iN {Da:Addr}{i:Nat}{tb:Rx->TS}{ts:TS}(h:∀R,DXt K R (tb R) ρ M D fun ρ' cls fs M'=>∃C,cls = .ref C/\XM K C Da/\∀a,M' a=none->DSt K ts (ρ'.set i (some (.loc a))) (M'.put a (.x C fs)) (D.gone i)):DSt K (Y1 K Da i tb ts) ρ M D:=fun σ H E Rl k1 k2 k3 k4=>by
 refine h _ σ H E Rl k1 k2 k3 k4 fun ρ' cls fs M' σ' dd H' R' st xi ⟨C,e,xm,q⟩=>⟨C,e,xm,fun a ha=>?_⟩
 obtain⟨o2,t2⟩:=iM (C:=C) R'.own ha xi
 have R2:=(R'.step o2 t2).set (x:=.loc a) (v:=.ref a) rfl i
 have s2:=st.trans t2
 exact q a (R'.own.none ha) _ _ _ R2 (fun a b c d e f g=>k1 _ b _ d (e.unset i) (s2.trans f) g) (fun a b c d e f g q=>k2 a b c d e f (s2.trans g) q) (fun a b c d e f g=>k3 _ b _ d (e.unset i) (s2.trans f) g) (fun a b c d e f g=>k4 _ b _ d (e.unset i) (s2.trans f) g)
end
section
variable {P:Program}{w:World}{K:Frg}{mg:Str->Option Value}{base:Heap}
theorem sG (X:Cx) {D:Addr}{i:Nat}{body:List Stmt}{b₀:Stmt}{suite:List Stmt}{x n:Str}{np hpos pos:Pos}{tb:Rx->TS}{ts:TS}(hK:X.K=K) (hstk:X.stack=X.env::X.outer) (hfr:X.env.frame=some X.env.locals)
   (hN:X.N.Nodup) (hi:X.N[i]?=some n) (hk:X.env.kindOf n=some .local)
   (hg:Gl X x) (hm:X.mg x=some (.ref D)) (hb:∀(pn:List (Addr×Obj)) (R:Rx),PSs ((pinned X pn).wish (Fly (pinned X pn) R)) body (tb R)) (hs:∀a,PSs (bZ X a) (b₀::suite) ts) (hdb:(x==("__debug__":Str))=false:=by decide) :
   PS X (.Try body [.ExceptHandler (some (.Name x np)) (some n) (b₀::suite) hpos] [] [] pos) (Y1 K D i tb ts):=by
 subst hK
 exact iL hstk hfr hN hi hk hg hm hb hs hdb
end
end DL
namespace XC
open PySem PySem.Spec L2
section
open PySem.W
variable {K:Frag}{prog:Program}{w:World}{A:Around}{E:Value->Shared->Prop}{s:Shared}{x D C:Addr}{ox:Obj}{odo:Option Obj}{name:Str}
structure XKit (K:Frag) (D:Addr):Prop where
 ga:findIn K (.ref D) "__getattribute__"=some (some (.builtin "BaseException.__getattribute__"))
 gg:findIn K (.ref D) "__getattr__"=some none
 hd:hasDictIn K D=true
 ca:findIn K (.ref D) "__class__"=some (some (.builtin "object.__class__"))
 gt:specialIn K (.builtin "object.__class__") "__get__"=some (some (.builtin "getset_descriptor.__get__"))
 tk:takesIn K (.builtin "object.__class__")=some true
 ob:mroIn K D (.type "object")=some true
 bx:mroIn K D (.type "BaseException")=some true
theorem iO {nameV:Value}{Q:Unit->Shared->Prop}(X:K.In s.heap) (I:InstAt s.heap x ox D odo) (c:XKit K D) (hq:Q () s):wpAny (model prog w) A (checkBuiltinCall "BaseException.__getattribute__" ⟨[.ref x,nameV],[]⟩) Q E s:=by
 have hk:builtinKind "BaseException.__getattribute__"=some .slot:=by decide +kernel
 have hsplit:splitId "BaseException.__getattribute__"=some ("BaseException", "__getattribute__"):=by decide +kernel
 have ha:=F.args_bexc_ga (.ref x) nameV
 have L0:=I.type (M:=model prog w)
 have L1:=looks_mroIn (M:=model prog w) X c.bx
 simp only[checkBuiltinCall,hk,hsplit]
 refine zZ ?_
 unfold isInstance
 refine zZ (L0.at (L1.at ?_))
 repeat (first | assumption | wp_step)
theorem mZ {tk:Tok}{R:Result->Shared->Prop}(X:K.In s.heap) (I:InstAt s.heap x ox D odo) (c:XKit K D)
   (h:wpAny (model prog w) A.in1 (Builtin.«object.__getattribute__» ⟨[.ref x,.str name tk],[]⟩) (fun fin s'=>match fin with | .done f=>R (.ok f) s' | .again _=>False) (fun e s'=>R (.error e) s') s) :
   codeAny (model prog w) A (.call (.builtin "BaseException.__getattribute__") ⟨[.ref x,.str name tk],[]⟩) R s:=by
 refine codeAny_call_builtin F.attr_ValueError.ga.plain F.entry_bexc_ga (iO X I c (wpAny_mono h (fun fin s' z=>?_) fun _ _ z=>z))
 cases fin with
 | done f=>exact z
 | again c=>exact z.elim
theorem iP {tk:Tok}{fill expr:Bool}{Q:Value->Shared->Prop}(X:K.In s.heap) (I:InstAt s.heap x ox D odo) (c:XKit K D)
   (h:wpAny (model prog w) A.in1 (Builtin.«object.__getattribute__» ⟨[.ref x,.str name tk],[]⟩) (fun fin s'=>match fin with | .done (.ret v)=>wpAny (model prog w) A (handedOut v) Q E s' | _=>False) (fun _ _=>False) s) :
   wpAny (model prog w) A (getAttrBy (.ref x) (.str name tk) fill expr) Q E s:=by
 have L0:=I.type (M:=model prog w)
 have L1:=looks_findIn (M:=model prog w) X c.ga
 have L2:=looks_findIn (M:=model prog w) X c.gg
 have hx0:(expr&&onTheHeap (b5Q "BaseException.__getattribute__"))=false:=by cases expr <;> rfl
 have hx2:(b5Q "BaseException.__getattribute__" == b5Q "object.__getattribute__")=false:=by decide +kernel
 have hx1:(onTheHeap (a0X D)&&b5Q "BaseException.__getattribute__" == b5Q "object.__getattribute__")=false:=by rw[hx2];rfl
 obtain⟨hh,g,d,t,os⟩:=s
 unfold getAttrBy
 refine wpAny_holding (zZ (L0.at (zZ (L1.at ?_))))
 simp only[hx1]
 unfold getAttrByItsOwn hookBefore
 refine zZ ?_
 rw[if_pos (show onTheHeap (a0X D)=true from rfl)]
 refine L2.at ?_
 refine zZ (wpAny_attempt (wpAny_holding ?_))
 unfold callGetattribute
 rw[if_neg (by rw[hx0];decide)]
 unfold boundAndCalled
 rw[F.attr_ValueError.ga.bind]
 refine zZ (zY ?_)
 refine wpAny_call (mZ X I c (wpAny_mono h (fun fin s' z=>?_) fun _ _ z=>z.elim))
 rcases fin with (_ | _ | _ | _) | _ <;> first | exact z | exact z.elim
theorem c9 {tk:Tok}{v:Value}{P:Value->Shared->Prop}{E':Value->Shared->Prop}(X:K.In s.heap) (I:InstAt s.heap x ox D odo) (hf:findObj K D odo name=some (.value v)) (h:P v s) :
   wpAny (model prog w) A (Builtin.«object.__getattribute__» ⟨[.ref x,.str name tk],[]⟩) (fun fin s'=>match fin with | .done (.ret v)=>P v s' | _=>False) E' s:=by
 obtain⟨hh',g,d,t,os⟩:=s
 have L0:=I.type (M:=model prog w)
 have L1:=looks_find (M:=model prog w) X I hf
 refine zZ (zY (zZ (zY (zZ (L0.at (zZ (L1.at ?_)))))))
 exact zY h
theorem iQ {tk:Tok}{g a:Value}{P:Value->Shared->Prop}{E':Value->Shared->Prop}(X:K.In s.heap) (I:InstAt s.heap x ox D odo) (hf:findObj K D odo name=some (.bind g a)) (h:wpAny (model prog w) A (call g [a,.ref x,.ref D]) P E' s) :
   wpAny (model prog w) A (Builtin.«object.__getattribute__» ⟨[.ref x,.str name tk],[]⟩) (fun fin s'=>match fin with | .done (.ret v)=>P v s' | _=>False) E' s:=by
 obtain⟨hh',gg,d,t,os⟩:=s
 have L0:=I.type (M:=model prog w)
 have L1:=looks_find (M:=model prog w) X I hf
 refine zZ (zY (zZ (zY (zZ (L0.at (zZ (L1.at ?_)))))))
 show wpAny _ _ (holding [a] (call g [a,.ref x,.ref D]) >>= ret) _ _ _
 exact zZ (wpAny_holding (wpAny_mono h (fun v s' z=>zY z) fun _ _ z=>z))
theorem iR {expr:Bool}{v:Value}{Q:Value->Shared->Prop}(X:K.In s.heap) (I:InstAt s.heap x ox D odo) (c:XKit K D) (hf:findObj K D odo name=some (.value v)) (hh:handedIn v=true) (h:Q v { s with toks:=s.toks+1 }) :
   wpAny (model prog w) A (getAttr (.ref x) name expr) Q E s:=by
 obtain⟨hp,g,d,t,os⟩:=s
 unfold getAttr
 refine zZ (wpAny_mkText (iP (s:=⟨hp,g,d,t+1,os⟩) X I c (c9 (s:=⟨hp,g,d,t+1,os⟩) X I hf ?_)))
 rw[handedOut_of hh];exact zY h
theorem Q0 {a g:Value}(hc:(clsIn K C).isSome=true) (ha:findIn K (.ref C) name=some (some a)) (hg:specialIn K a "__get__"=some (some g)) (ht:takesIn K a=some true):findObj K C odo name=some (.bind g a):=by
 obtain⟨cd,hc⟩:=xY.mp hc
 unfold findObj
 rw[hc,Option.bind_some,ha,Option.bind_some]
 simp[hg,ht]
theorem iS (c:XKit K D):KitX K (.ref x) (.ref D) (fun h=>∃ox od,InstAt h x ox D od) where
 ty:=fun _ _ _ ⟨_,_,I⟩=>I.type
 it:=fun _ _ X _=>by
   obtain⟨cdD,hcD,_⟩:=any_some c.hd
   unfold clsIn at hcD
   split at hcD
   · rename_i c' d' cd' sl' ho
     intro A' Q' E' s' k q
     unfold isType loadHead
     exact zZ (wpAny_loadPart (k _ _ (X _ _ ho)) (zY q))
   · cases hcD
 ne:=fun h tp dd its n sl X htp=>by
   obtain⟨cdD,hcD,_⟩:=any_some c.hd
   refine Bool.eq_false_iff.mpr fun q=>?_
   have e:D=tp:=Value.ref.inj (beq_iff_eq.mp q)
   subst e
   unfold clsIn at hcD
   split at hcD
   · rename_i c' d' cd' sl' ho
     have z:=(X _ _ ho).symm.trans htp
     cases z
   · cases hcD
 ca:=fun {prog w A E Q s} X ⟨ox,od,I⟩ k=>by
   have hf:findObj K D od "__class__"=some (.bind (.builtin "getset_descriptor.__get__") (.builtin "object.__class__")):=Q0 (by obtain⟨cd,hc,_⟩:=any_some c.hd;rw[hc];rfl) c.ca c.gt c.tk
   obtain⟨hp,g,dr,t,os⟩:=s
   unfold getAttr? getAttrBy?
   refine zZ (wpAny_mkText (zZ (wpAny_attempt ?_)))
   refine iP (s:=⟨hp,g,dr,t+1,os⟩) X I c (iQ (s:=⟨hp,g,dr,t+1,os⟩) X I hf ?_)
   exact wpAny_call (class_get (s:=⟨hp,g,dr,t+1,os⟩) (ox:=ox) (od:=od) X I c.ob (handed_on rfl (zY k)))
end
section
variable {X:Cx}{pins:List (Addr×Obj)}{σ:St}{H:Hp}{s:Shared}{a C:Addr}{dd:Option Addr}
def sH (H:Hp):Option Addr->Prop
 | none=>True
 | some d=>∃fs,H d=some (.xd fs)
theorem iT (I:Inv X pins σ H s) (e:H a=some (DL.exK a C dd)) (hd:sH H dd):∃ox od,PySem.W.InstAt s.heap a ox C od/\ox.dict=dd:=by
 obtain⟨o,vs,ho,hc,hdd,hdt⟩:=(I.hok a _ e).1
 have no:PySem.W.notCls o=true:=by unfold PySem.W.notCls;rw[hdt]
 cases dd with
 | none=>exact⟨o,none,⟨ho,hc,no,by rw[hdd];trivial⟩,hdd⟩
 | some d=>
   obtain⟨fs,q⟩:=hd
   obtain⟨mA,⟨od,_,_,hod,_⟩,_⟩:=I.hok d _ q
   exact⟨o,some od,⟨ho,hc,no,by rw[hdd];exact hod⟩,hdd⟩
def ZS (K:Frg):List V->Hp->VK->Prop:=fun xs H Q=>∃(a C:Addr) (dd:Option Addr) (c:V) (u:Value) (b:Bool),xs=[.ref a,c]/\H a=some (DL.exK a C dd)/\sH H dd/\XKit K C/\(∀u',RelV c u'->u'=u)/\a3Q K (.ref C) u=some b/\Q (.bl b) H
theorem cA:B2 X (.builtin "isinstance") (ZS X.K):=by
 intro pins s σ H vs us Q I r h
 obtain⟨a,C,dd,c,u,b,rfl,e,hd,k,hu,hb,q⟩:=h
 obtain⟨ua,uc,rfl,ra,rc⟩:∃ua uc,us=[ua,uc]/\RelV (.ref a) ua/\RelV c uc:=by
   cases r with | cons r1 r2=>cases r2 with | cons r3 r4=>cases r4;exact⟨_,_,rfl,r1,r3⟩
 cases (show ua=a0X a from ra)
 cases hu _ rc
 obtain⟨ox,od,J,_⟩:=iT I e hd
 exact a1W (iS k) I.kIn ⟨ox,od,J⟩ hb (fun z=>nomatch z) fun tk=>⟨.bl b,H,I.tok _,rfl,q⟩
end
end XC
namespace XC
open PySem PySem.Spec L2
section
variable {X:Cx}{pins:List (Addr×Obj)}{σ:St}{H:Hp}{s:Shared}{a C d:Addr}
theorem n3 {fs:List (Str×V)}{f:Str}{v:V}{A:Around}{E:Value->Shared->Prop}{b:Bool}{Q:Value->Shared->Prop}(I:Inv X pins σ H s) (e:H a=some (DL.exK a C (some d))) (hd:H d=some (.xd fs)) (k:XKit X.K C) (n:L8 X.K C f) (l:fs.lookup f=some v)
   (h:∀u s',Inv X pins σ H s'->RelV v u->Q u s'):wpAny (model X.prog X.w) A (getAttr (.ref a) f b) Q E s:=by
 obtain⟨o,vs,ho,hc,hdd,hdt⟩:=(I.hok a _ e).1
 have no:PySem.W.notCls o=true:=by unfold PySem.W.notCls;rw[hdt]
 obtain⟨mA,ns,hr⟩:=I.hok d _ hd
 obtain⟨od,hod,hl⟩:=QD ns
 have J:PySem.W.InstAt s.heap a o C (some od):=⟨ho,hc,no,by rw[hdd];exact hod⟩
 obtain⟨u,hu,ru⟩:=RelO.some_of (v:=v) (o:=mA f) (by rw[← l];exact hr f)
 exact iR I.kIn J k (PySem.W.findObj_own k.hd n rfl (by rw[hl,hu])) (aK ru) (h u _ (I.tok _) ru)
def iU (K:Frg) (ta:TE) (f:Str):TE:=fun σ H Q=>ta σ H fun x H1=>∃a C d fs v,x = .ref a/\H1 a=some (DL.exK a C (some d))/\H1 d=some (.xd fs)/\XKit K C/\L8 K C f/\fs.lookup f=some v/\Q v H1
theorem n4 {e:Expr}{f:Str}{pos:Pos}{ta:TE}(he:PE X e ta) (hb:attributeBase e f X.env (eval e X.env)=eval e X.env):PE X (.Attribute e f pos) (iU X.K ta f):=by
 intro pins s σ H Q I h
 refine k7 hb (thn (he pins s σ H _ I h) fun u s1 ⟨x,H1,I1,rx,a,C,d,fs,v,ex,ea,ed,k,n,l,q⟩=>?_)
 subst ex
 obtain rfl:u=a0X a:=rx
 exact n3 I1 ea ed k n l fun u' s2 I2 ru=>⟨v,H1,I2,ru,q⟩
end
end XC
namespace DL
open PySem PySem.Spec L2 XC
section
variable {K:Frg}{ρ:List (Option DS)}{M:Own}{H:Hp}{Q:DS->Own->Prop}{ta:TE}
theorem XI.dd {W:Addr->Prop}{dd:Option Addr}{fs:List (Str×PyData)}(h:XI K H W dd fs):sH H dd:=by
 unfold XI at h
 split at h
 · trivial
 · obtain⟨v,_,q,_⟩:=h;exact⟨_,q⟩
 · exact h.elim
theorem n5 {a C C':Addr}{fs:List (Str×PyData)}{b:Bool}(m:M a=some (.x C fs)) (k:XKit K C) (hb:a3Q K (.ref C) (.ref C')=some b) (q:Q (.d (.bool b)) M):DR K (ZS K) [.loc a,.loc C'] M Q:=fun H vs QQ oa s kk=>by
 obtain⟨v,r,rfl,h1,v2,r2,rfl,h2,h3⟩:=s
 cases h3
 unfold SI at h1 h2
 subst h1 h2
 obtain⟨dd,e,xi⟩:=oa a _ m
 exact⟨a,C,dd,.ref C',.ref C',b,rfl,e,xi.dd,k,(fun u' z=>z),hb,kk _ _ (.d (.bool b)) M oa (by unfold SI DV;rfl) Step.refl q⟩
theorem ZT {f:Str}(h:DE K ta ρ M fun x M1=>∃(a C:Addr) (d:PyData),x = .loc a/\M1 a=some (.x C [(f,d)])/\XKit K C/\L8 K C f/\Q (.d d) M1):DE K (iU K ta f) ρ M Q:=fun σ H QQ R kk=>
 h σ H _ R fun v H1 x M1 o1 s1 t1 h1=>by
   obtain⟨a,C,d,rfl,m,k,n,q⟩:=h1
   unfold SI at s1
   subst s1
   obtain⟨dd,e,xi⟩:=o1 a _ m
   cases dd with
   | none=>exact xi.elim
   | some p=>
     obtain⟨u,nw,e2,dv⟩:=xi
     exact⟨a,C,p,_,u,rfl,e,e2,k,n,by simp[List.lookup],kk _ _ (.d d) M1 o1 dv t1 q⟩
theorem uQ {X:Cx}{K:Frg}{e:Expr}{f:Str}{pos:Pos}{ta:TE}(h:X.K=K) (he:PE X e ta) (hb:attributeBase e f X.env (eval e X.env)=eval e X.env):PE X (.Attribute e f pos) (iU K ta f):=h▸n4 he hb
end
end DL
namespace L2
open PySem PySem.Spec PyProof.Rows
def Ite (K:Frg) (l:Addr):It:=
 ⟨fun i H=>∃xs,SqL K H l xs/\i < xs.length,
  fun i H x H'=>∃p a,H p=none/\x = .ref p/\H'=upd H p (.tup [.int (i:Nat),a])/\∀xs,SqL K H l xs->xs[i]?=some a,
  fun i H=>∃xs,SqL K H l xs/\xs.length<=i⟩
theorem cB {P:Program}{w:World}{K:Frg}{elts:List Expr}{kk:Nat}{tpos:Pos}(e it l:Addr) (d1:e≠it) :
   Turn P w K (.Tuple elts kk tpos) (Ite K l) [e,it] e (fun i h=>(∃old,IsEnum h e it (i:Nat) old)/\h.IsListIter it l i) where
 mem:=by simp
 obj:=fun i h ⟨⟨old,a1⟩,a2⟩ b hb=>by
   simp only[yX,xX,or_false] at hb
   rcases hb with rfl | rfl
   · exact⟨_,a1,fun v q=>by cases q⟩
   · obtain⟨o,q,c,d⟩:=a2;exact⟨o,q,fun v z=>by rw[d] at z;cases z⟩
 keep:=fun i h h' ⟨⟨old,a1⟩,a2⟩ k=>⟨⟨old,k e (by simp) _ a1⟩,a2.at fun o q=>k it (by simp) o q⟩
 item:=by
   intro X hP hw hK hc i pins s σ H E I hf ⟨⟨old,a1⟩,a2⟩ hg
   subst hP hw hK
   obtain⟨xs,hx,lx⟩:=hg
   obtain⟨its,rx,px,_⟩:=I.list hx
   obtain⟨u,hu,ru⟩:=rx.get (zV lx)
   have hle:l≠e:=oJ I (hf e (by simp)) hx
   have hli:l≠it:=oJ I (hf it (by simp)) hx
   refine wpAny_pyNext_enum_item a1 a2 px.isList (x:=u) (by simpa using hu) d1 fun h' b1 b2 b3 b4 hk=>?_
   refine⟨_,rfl,wpAny_letOwnedTupleGo_enum (s:={ s with heap:=h',toks:=s.toks+1 }) b1 fun h2 c1 sb=>?_⟩
   have lt:∀{c o},s.heap.get? c=some o->s.heap.objs.size≠c:=fun q=>a5K (zM q)
   have keep:∀b o,b∉[e,it]->s.heap.get? b=some o->h2.get? b=some o:=fun b o hb q=>by
     simp only[yX,xX,or_false,not_or] at hb
     exact sb.extBut b o hb.1 (hk b o hb.1 hb.2 q)
   have hTe:s.heap.objs.size≠e:=lt a1
   have I1:Inv X pins σ (upd H s.heap.objs.size (.tup [.int (i:Nat),xs[i]])) { s with heap:=h2,toks:=s.toks+1 }:=I.turnedT (t':=s.toks+1) (ch:=[e,it]) keep (fun b hb=>(hf b hb).1)
     (fun b hb=>let q:=hf b hb;⟨q.2.2.2.1,q.2.1,q.2.2.2.2.1,q.2.2.2.2.2⟩) (zR _)
     ⟨by show 2<=sizeLine;decide,[.int (i:Nat) s.toks,u],.cons ⟨_,rfl⟩ (.cons ru .nil),⟨_,sb.extBut _ _ hTe b3,rfl,_,rfl⟩⟩
   refine⟨.ref s.heap.objs.size,_,I1,rfl,⟨s.heap.objs.size,xs[i],I.hok.fresh (zR _),rfl,rfl,fun xs' hx'=>?_⟩,⟨⟨_,c1⟩,b2.extBut sb.extBut (a8J d1)⟩,fun b hb=>?_⟩
   · rw[I.list_inj hx' hx]
     exact zV lx
   · have hlt:s.heap.objs.size≠b:=by
       simp only[yX,xX,or_false] at hb
       rcases hb with rfl | rfl
       · exact lt a1
       · obtain⟨o,q,_⟩:=a2;exact lt q
     rw[AF (a8J hlt)]
     exact(hf b hb).1
 done:=by
   intro X hP hw hK hc i pins s σ H E I hf ⟨⟨old,a1⟩,a2⟩ hg
   subst hP hw hK
   obtain⟨xs,hx,hend⟩:=hg
   obtain⟨its,rx,px,_⟩:=I.list hx
   have e1:=rx.length
   refine wpAny_pyNext_enum_end (I.ok.hd hc) a1 a2 px.isList (by rw[c0Z];simp;omega) fun h' hk=>⟨rfl,I.turnedL (t':=s.toks) (ch:=[e,it]) (fun b o hb q=>?_) (fun b hb=>(hf b hb).1) fun b hb=>let q:=hf b hb;⟨q.2.2.2.1,q.2.1,q.2.2.2.2.1,q.2.2.2.2.2⟩⟩
   simp only[yX,xX,or_false,not_or] at hb
   exact hk b o hb.2 q
 self:=fun _ _ _ _ _ st h=>let ⟨_,q⟩:=st.1;wpAny_pyIter_enum q h
section
variable {X:Cx}{K:Frg}
def iV (K:Frg) (ta:TA):TI:=fun σ H R=>ta σ H fun vs H1=>∃a,vs=[.ref a]/\(∃xs,SqL K H1 a xs)/\R (Ite K a) H1
theorem n6 {a:Expr}{ta:TA}{p pos:Pos}{elts:List Expr}{kk:Nat}{tpos:Pos}(hg:Gl X "enumerate") (hm:X.mg "enumerate"=none) (ha:PA X [a] ta) (hs:starEach [a] X.env=[(false,eval a X.env)]:=by rfl) :
   PI X (.Tuple elts kk tpos) (.Call (.Name "enumerate" p) [a] [] pos) (iV X.K ta):=by
 intro pins s σ H R I h
 refine Call_ (JO I hg hm boot_enumerate (xH (thn (ha pos pins s σ H _ I h) fun us s1 ⟨vs,H1,I1,r1,q1⟩=>?_) hs rfl))
 obtain⟨l,e,⟨xs,hx⟩,q⟩:=q1
 subst e
 obtain⟨u,rfl,ru⟩:=DN r1
 cases ru
 obtain⟨its,rx,px,_⟩:=I1.list hx
 refine call_enumerate_list px.isList fun h' b1 b2 b3 hk=>?_
 refine wpAny_pyIter_enum (s:={ s1 with heap:=h' }) b1 ?_
 refine⟨s1.heap.objs.size+1,[s1.heap.objs.size+1,s1.heap.objs.size],_,_,H1,rfl,I1.kept (t':=s1.toks) hk,cB (s1.heap.objs.size+1) s1.heap.objs.size l (Nat.succ_ne_self _),⟨⟨_,b1⟩,b2⟩,fun b hb=>?_,q⟩
 have hle:s1.heap.objs.size<=b:=by
   simp only[yX,xX,or_false] at hb
   rcases hb with rfl | rfl
   · exact a9Q _ _
   · exact zR _
 exact I1.fpOk hle (I1.hok.fresh hle)
theorem uR {a:Expr}{ta:TA}{p pos:Pos}{elts:List Expr}{kk:Nat}{tpos:Pos}(h:X.K=K) (hg:Gl X "enumerate") (hm:X.mg "enumerate"=none) (ha:PA X [a] ta) (hs:starEach [a] X.env=[(false,eval a X.env)]:=by rfl) :
   PI X (.Tuple elts kk tpos) (.Call (.Name "enumerate" p) [a] [] pos) (iV K ta):=h▸n6 hg hm ha hs
end
end L2
namespace DL
open PySem PySem.Spec L2
section
variable {K:Frg}{M:Own}{ρ:List (Option DS)}{QI:List PyData->Own->Prop}
def EQ (as:List PyData):List PyData:=as.zipIdx.map fun p=>.tuple [.int (p.2:Nat),p.1]
theorem n8 {ta:TA}(h:DA K ta ρ M fun xs M1=>∃as,xs=[.d (.list as)]/\QI (EQ as) M1):DI K (iV K ta) ρ M QI:=fun σ H R Rl k=>
 h σ H _ Rl fun vs H1 xs M1 o1 s1 t1 ⟨as,e,q⟩=>by
   subst e
   obtain⟨v,r,rfl,h1,h3⟩:=s1
   cases h3
   unfold SI DV at h1
   obtain⟨a,va,rfl,hl,hd⟩:=h1
   have hlen:(EQ as).length=as.length:=by unfold EQ;rw[zX,b7V]
   refine⟨a,rfl,⟨va,hl.sq⟩,k _ (EQ as) H1 M1 o1 t1 ⟨fun i H' M' hi oa st=>?_,fun H' M' oa st=>?_,fun i H' M' x H2 oa st hi y=>?_⟩ q⟩
   · rw[hlen] at hi
     exact⟨va,(hl.grow st.grow).sq,by rw[hd.length];omega⟩
   · refine⟨va,(hl.grow st.grow).sq,?_⟩
     rw[hlen,hd.length];omega
   · obtain⟨p,xa,hp,rfl,rfl,hy⟩:=y
     have e1:=hy va (hl.grow st.grow).sq
     obtain⟨da,f1,f2⟩:=hd.get e1
     have gg:Grow K M'.W M'.W H' (upd H' p (.tup [.int (i:Nat),xa])):=AW _ hp
     refine⟨oa.new hp,⟨gg⟩,.tuple [.int (i:Nat),da],?_,?_⟩
     · unfold EQ
       rw[zF,List.getElem?_zipIdx,f1]
       simp
     · unfold DV
       exact⟨p,_,rfl,.inl ⟨fun w=>w (oa.none hp),.inl AG⟩,DVs.cons (by unfold DV;rfl) (DVs.cons ((f2.grow st.grow).grow gg) DVs.nil)⟩
end
end DL
namespace L2
open PySem PySem.Spec PyProof.Rows
section
variable {X:Cx}
def sI (K:Frg) (neg:Bool):R2:=fun x y H Q=>∃(W:Addr->Prop) (d:PyData) (ds:List PyData),DV K H W d x/\zH d=true/\((DV K H W (.list ds) y/\zH (.list ds)=true)∨(DV K H W (.tuple ds) y/\zH (.tuple ds)=true)) /\
 Q (.bl (if neg then !(ds.any fun e=>a0Z e d) else ds.any fun e=>a0Z e d)) H
theorem iW {A:Around}{d:PyData}{ds:List PyData}(hu:A.units+64 < cLine) (h:a2X ds+1<=64):A.units+1+min (a2X ds) d.depth < cLine:=by
 have:=Nat.min_le_left (a2X ds) d.depth
 omega
theorem sJ (hu:X.A.units+64 < cLine):OpR X (compareOp .In) (sI X.K false):=by
 intro pins s σ H x y v u Q I rx ry h
 obtain⟨W,d,ds,h1,s1,⟨h2,s2⟩ | ⟨h2,s2⟩,q⟩:=h
 all_goals
   obtain⟨as,r1⟩:=h1.reads I (zG s1) rx
   obtain⟨bs,r2⟩:=h2.reads I (zG s2) ry
   have dep:=PySem.SeqAt.depth_of_shaped s2
 · exact PySem.SeqAt.in_list_reads r2 r1 (zG s2) (zG s1) (iW hu dep) ⟨.bl _,H,I,rfl,q⟩
 · exact PySem.SeqAt.in_tuple_reads r2 r1 (zG s2) (zG s1) (iW hu dep) ⟨.bl _,H,I,rfl,q⟩
end
end L2
namespace DL
open PySem PySem.Spec L2
section
variable {X:Cx}{K:Frg}
theorem w8 (h:X.K=K) (hu:X.A.units+64 < cLine):OpR X (compareOp .In) (sI K false):=h▸sJ hu
end
section
variable {K:Frg}{M:Own}{ρ:List (Option DS)}{g:TG}{wi:TI}{Q:DS->Own->Prop}
theorem sK {neg:Bool}{d:PyData}{ds:List PyData}(s1:zH d=true) (s2:zH (.list ds)=true) (q:Q (.d (.bool (if neg then !(ds.any fun e=>a0Z e d) else ds.any fun e=>a0Z e d))) M):D2 K (sI K neg) (.d d) (.d (.list ds)) M Q:=fun H v u QQ oa h1 h2 k=>
 ⟨M.W,d,ds,h1,s1,.inl ⟨h2,s2⟩,k _ H _ M oa AJ Step.refl q⟩
end
end DL
namespace DL
open PySem PySem.Spec L2 XC
theorem n9 {K:Frg}{ρ:List (Option DS)}{M:Own}{Q:DS->Own->Prop}{a:Addr}(h:Q (.loc a) M):DE K (tC (.ref a)) ρ M Q:=fun σ H QQ R k=>k _ H (.loc a) M R.own rfl Step.refl h
theorem HasX.calm {P:Program}{w:World}{K:Frg}{mg:Str->Option Value}{base:Heap}{x:Str}{k:Nat}{ps:List Str}{S:FSpX}{S':FSp}(h:HasX P w K mg base x k ps S)
   (hp:∀xs M,S'.pre xs M->S.pre xs M/\(∀y M',S.post xs M y M'->S'.post xs M y M')/\∀cls fs M',¬S.xpost xs M cls fs M'):Has P w K mg base x k ps S':=by
 obtain⟨f,fd,F,hm,hk,hb⟩:=h.ex
 refine⟨f,fd,⟨YZ,fun A outer s H args us vs Q E hr he hbt hv hs=>?_⟩,hm,hk,hb⟩
 obtain⟨xs,M,h0,oa,si,pre,q⟩:=hs
 obtain⟨g1,g2,g3⟩:=hp xs M pre
 refine xN (F.run A outer s H args us vs Q (fun _ _ _=>False) hr he hbt hv ⟨xs,M,h0,oa,si,g1,fun y M' v H' p1=>q y M' v H' (g2 y M' p1),fun cls fs M' dd H' p1=>absurd p1 (g3 cls fs M')⟩) fun r s' hr'=>?_
 cases r with
 | ok z=>cases z <;> first | exact hr' | exact hr'.elim
 | error e=>
   obtain⟨_,_,_,_,_,_,_,_,_,_,_,_,_,_,_,_,hf⟩:=hr'
   exact hf.elim
end DL
namespace DL
open PySem PySem.Spec L2
def LU:List Str->List Str->List Deed->Prop
 | _,_,[]=>True
 | so,sp,D::r=>B9 so D=none/\(∀n,D.made=some n->sp.head?=some n)/\D.real/\LU (BE so D) (CA sp D) r
def ZU:List Str->List Str->List Deed->List Str×List Str
 | so,sp,[]=>(so,sp)
 | so,sp,D::r=>ZU (BE so D) (CA sp D) r
theorem K0:∀{Ds:List Deed}{so sp so' sp':List Str}{D:Deed},LU so sp Ds->ZU so sp Ds=(so',sp')->B9 so' D=none->(∀n,D.made=some n->sp'.head?=some n)->D.real->LU so sp (Ds++[D])/\ZU so sp (Ds++[D])=(BE so' D,CA sp' D)
 | [],so,sp,so',sp',D,_,e,h1,h2,h3=>by
   cases e
   exact⟨⟨h1,h2,h3,trivial⟩,rfl⟩
 | F::r,so,sp,so',sp',D,h,e,h1,h2,h3=>by
   obtain⟨g1,g2⟩:=K0 (Ds:=r) h.2.2.2 e h1 h2 h3
   exact⟨⟨h.1,h.2.1,h.2.2.1,g1⟩,g2⟩
def Deed.must (D:Deed):List Str:=D.names.filter fun n=>decide (¬D.made=some n)
theorem nA (D:Deed):VD D.d=D.must:=by
 unfold VD Deed.must
 rw[VA]
 apply List.filter_congr
 intro n _
 rw[NF]
 cases h:D.made with
 | none=>rfl
 | some x=>
   show(!a0Z (.str n) (.str x))=decide (¬some x=some n)
   rw[BK]
   by_cases e:n=x
   · subst e;simp
   · have:¬x=n:=fun q=>e q.symm
     simp[e,this]
def mkN (Ds:List Deed) (j:Nat):Option Str:=(Ds[j]?).bind Deed.made
def RJ (Ds:List Deed) (k:Nat):List Str:=match Ds[k]? with | some D=>D.must | none=>[]
structure FreshD (Ds:List Deed):Prop where
 one:∀i j x,mkN Ds i=some x->mkN Ds j=some x->i=j
 bef:∀j k x,mkN Ds j=some x->x∈RJ Ds k->j < k
theorem cC (sp:List Str) (D:Deed):(CA sp D).Sublist sp:=by
 unfold CA
 split
 · exact List.drop_sublist _ _
 · exact a3K _
theorem RK:∀(Ds:List Deed) (so sp:List Str),LU so sp Ds->(so++sp).Nodup->(∀j x,mkN Ds j=some x->x∈sp)/\FreshD Ds
 | [],so,sp,_,_=>⟨fun j x h=>by simp[mkN] at h,fun i j x h=>by simp[mkN] at h,fun j k x h=>by simp[mkN] at h⟩
 | D::r,so,sp,h,nd=>by
   obtain⟨h1,h2,_,h3⟩:=h
   have nd2:(BE so D++CA sp D).Nodup:=nd.sublist (J1 h2)
   obtain⟨i1,i2⟩:=RK r _ _ h3 nd2
   have sub:=(cC sp D).subset
   have m0:∀x,mkN (D::r) 0=some x->D.made=some x:=fun x h=>h
   have in0:∀x,D.made=some x->x∈sp:=fun x e=>List.mem_of_mem_head? (h2 x e)
   have all:∀j x,mkN (D::r) j=some x->x∈sp:=fun j x e=>by
     cases j with
     | zero=>exact in0 x e
     | succ j=>exact sub (i1 j x e)
   have dis:∀x,x∈so->x∈sp->False:=fun x a b=>(List.nodup_append.mp nd).2.2 x a x b rfl
   refine⟨all,fun i j x e1 e2=>?_,fun j k x e1 e2=>?_⟩
   · have two:∀j,D.made=some x->mkN r j=some x->False:=fun j a b=>by
       have q1:=i1 j x b
       have q2:=h2 x a
       unfold CA at q1
       rw[a] at q1
       dsimp only at q1
       have nsp:sp.Nodup:=(List.nodup_append.mp nd).2.1
       cases sp with
       | nil=>simp at q2
       | cons y ys=>
         have:y=x:=by simpa using q2
         subst this
         exact(xV.mp nsp).1 (by simpa using q1)
     cases i with
     | zero=>
       cases j with
       | zero=>rfl
       | succ j=>exact(two j e1 e2).elim
     | succ i=>
       cases j with
       | zero=>exact(two i e2 e1).elim
       | succ j=>rw[i2.one i j x e1 e2]
   · cases k with
     | zero=>
       have hm:x∈D.must:=e2
       obtain⟨a,b⟩:=yL.mp hm
       have b':¬D.made=some x:=of_decide_eq_true b
       exact(dis x (KF h1 a b') (all j x e1)).elim
     | succ k=>
       cases j with
       | zero=>exact Nat.succ_pos _
       | succ j=>exact Nat.succ_lt_succ (i2.bef j k x e1 e2)
theorem ZV:∀{l1 l2:List Int},l1.Pairwise (· < ·)->l2.Pairwise (· < ·)->(∀a,a∈l1↔a∈l2)->l1=l2
 | [],[],_,_,_=>rfl
 | [],b::r,_,_,h=>absurd ((h b).mpr (by simp)) (by simp)
 | a::r,[],_,_,h=>absurd ((h a).mp (by simp)) (by simp)
 | a::r,b::s,h1,h2,h=>by
   rw[a7Z] at h1 h2
   have e:a=b:=by
     rcases yX.mp ((h a).mp (by simp)) with q | q
     · exact q
     · rcases yX.mp ((h b).mpr (by simp)) with q2 | q2
       · exact q2.symm
       · have:=h1.1 b q2;have:=h2.1 a q;omega
   subst e
   rw[ZV h1.2 h2.2 fun x=>?_]
   constructor
   · intro hx
     rcases yX.mp ((h x).mp (yV _ hx)) with q | q
     · have:=h1.1 x hx;omega
     · exact q
   · intro hx
     rcases yX.mp ((h x).mpr (yV _ hx)) with q | q
     · have:=h2.1 x hx;omega
     · exact q
theorem sL {l:List Int}(h:l.Pairwise (·<=·)) (nd:l.Nodup):l.Pairwise (· < ·):=by
 have:=h.and nd
 exact this.imp fun {a b} q=>by obtain⟨q1,q2⟩:=q;omega
def T1 (l:List Nat):List Int:=l.map fun j:Nat=>(j:Int)
theorem iX {l:List Nat}(h:l.Pairwise (· < ·)):(T1 l).Pairwise (· < ·):=by
 unfold T1;rw[a4Z];exact h.imp fun {a b} q=>by omega
theorem iY {l:List Nat}{x:Int}:x∈T1 l↔∃j,j∈l/\x=(j:Int):=by
 unfold T1
 rw[zL]
 constructor
 · rintro⟨j,a,b⟩;exact⟨j,a,b.symm⟩
 · rintro⟨j,a,b⟩;exact⟨j,a,b.symm⟩
theorem cD (n:Nat):(a1V n).Pairwise (· < ·):=List.pairwise_lt_range
def FI (Ds:List Deed) (k j:Nat):Bool:=match mkN Ds j with | some x=>decide (x∈RJ Ds k) | none=>false
def EA (Ds:List Deed) (k:Nat):List Nat:=(a1V k).filter fun j=>FI Ds k j
theorem iZ (Ds:List Deed) (k:Nat):(EA Ds k).Pairwise (· < ·):=(cD k).filter _
def mkL (Ds:List Deed) (o:Nat):List (Str×PyData):=match Ds with
 | []=>[]
 | D::r=>(match D.made with | some x=>[(x,b4X (o:Nat))] | none=>[])++mkL r (o+1)
theorem NH:∀(Ds:List Deed) (o:Nat),(∀i j x,mkN Ds i=some x->mkN Ds j=some x->i=j)->∀x,AU (mkL Ds o) x=none/\(∀j,¬mkN Ds j=some x)∨∃j,mkN Ds j=some x/\AU (mkL Ds o) x=some (.int ((o+j:Nat):Int))
 | [],o,_,x=>.inl ⟨rfl,fun j=>by simp[mkN]⟩
 | D::r,o,h,x=>by
   have ih:=NH r (o+1) (fun i j y a b=>Nat.succ.inj (h (i+1) (j+1) y a b)) x
   cases hm:D.made with
   | none=>
     have e:mkL (D::r) o=mkL r (o+1):=by rw[mkL,hm];rfl
     rw[e]
     rcases ih with ⟨a,b⟩ | ⟨j,a,b⟩
     · refine .inl ⟨a,fun j q=>?_⟩
       cases j with
       | zero=>have:D.made=some x:=q;rw[hm] at this;cases this
       | succ j=>exact b j q
     · exact .inr ⟨j+1,a,by rw[b];congr 2;omega⟩
   | some y=>
     have e:mkL (D::r) o=(y,b4X (o:Nat))::mkL r (o+1):=by rw[mkL,hm];rfl
     rw[e]
     by_cases q:y=x
     · subst q
       exact .inr ⟨0,hm,by simp[AU]⟩
     · rcases ih with ⟨a,b⟩ | ⟨j,a,b⟩
       · refine .inl ⟨by simp[AU,q,a],fun j p=>?_⟩
         cases j with
         | zero=>have:D.made=some x:=p;rw[hm] at this;exact q (Option.some.inj this)
         | succ j=>exact b j p
       · exact .inr ⟨j+1,a,by simp only[AU];rw[if_neg q,b];congr 2;omega⟩
theorem VT:∀(Ds:List Deed) (o:Nat) (x:Str),x∈(mkL Ds o).map (·.1)->∃j,mkN Ds j=some x
 | [],o,x,h=>by simp[mkL] at h
 | D::r,o,x,h=>by
   rw[mkL,xI] at h
   rcases yW.mp h with h | h
   · cases hm:D.made with
     | none=>rw[hm] at h;simp at h
     | some y=>
       rw[hm] at h
       have:x=y:=by simpa using h
       subst this;exact⟨0,hm⟩
   · obtain⟨j,e⟩:=VT r (o+1) x h
     exact⟨j+1,e⟩
theorem RL:∀(Ds:List Deed) (o:Nat),(∀i j x,mkN Ds i=some x->mkN Ds j=some x->i=j)->((mkL Ds o).map (·.1)).Nodup
 | [],o,_=>by simp[mkL]
 | D::r,o,h=>by
   have ih:=RL r (o+1) fun i j y a b=>Nat.succ.inj (h (i+1) (j+1) y a b)
   cases hm:D.made with
   | none=>rw[mkL,hm];exact ih
   | some y=>
     rw[mkL,hm]
     show(y::(mkL r (o+1)).map (·.1)).Nodup
     rw[xV]
     refine⟨fun hy=>?_,ih⟩
     obtain⟨j,e⟩:=VT r (o+1) y hy
     have:=h 0 (j+1) y hm e
     omega
theorem j4 {Ds:List Deed}(hf:FreshD Ds) {k:Nat}{D:Deed}(hD:Ds[k]?=some D) (nd:D.must.Nodup) {L ss:List Int}(hL:L=(D.must.filter fun n=>(AU (mkL Ds 0) n).isSome).map fun n=>match AU (mkL Ds 0) n with | some (.int i)=>i | _=>0) (hp:ss.Perm L) (hs:ss.Pairwise (·<=·)):ss=T1 (EA Ds k):=by
 have val:∀n j,mkN Ds j=some n->AU (mkL Ds 0) n=some (.int (j:Int)):=fun n j e=>by
   rcases NH Ds 0 hf.one n with ⟨_,b⟩ | ⟨i,a,b⟩
   · exact absurd e (b j)
   · rw[hf.one j i n e a,b,Nat.zero_add]
 have ex:∀n,(AU (mkL Ds 0) n).isSome=true->∃j,mkN Ds j=some n:=fun n e=>by
   rcases NH Ds 0 hf.one n with ⟨a,_⟩ | ⟨i,a,_⟩
   · rw[a] at e;cases e
   · exact⟨i,a⟩
 have hm:RJ Ds k=D.must:=by unfold RJ;rw[hD]
 have memL:∀x,x∈L↔∃j,j∈EA Ds k/\x=(j:Int):=fun x=>by
   rw[hL,zL]
   constructor
   · rintro⟨n,hn,rfl⟩
     obtain⟨h1,h2⟩:=yL.mp hn
     obtain⟨j,e⟩:=ex n h2
     refine⟨j,?_,by rw[val n j e]⟩
     unfold EA
     refine yL.mpr ⟨List.mem_range.mpr (hf.bef j k n e (by rw[hm];exact h1)),?_⟩
     unfold FI
     rw[e,hm];exact decide_eq_true h1
   · rintro⟨j,hj,rfl⟩
     obtain⟨_,h2⟩:=yL.mp hj
     unfold FI at h2
     cases e:mkN Ds j with
     | none=>rw[e] at h2;cases h2
     | some n=>
       rw[e,hm] at h2
       refine⟨n,yL.mpr ⟨of_decide_eq_true h2,by rw[val n j e];rfl⟩,by rw[val n j e]⟩
 have ndL:L.Nodup:=by
   rw[hL]
   have inj:∀a∈D.must.filter (fun n=>(AU (mkL Ds 0) n).isSome),∀b∈D.must.filter (fun n=>(AU (mkL Ds 0) n).isSome),(match AU (mkL Ds 0) a with | some (.int i)=>i | _=>0)=(match AU (mkL Ds 0) b with | some (.int i)=>i | _=>0)->a=b:=fun a ha b hb e=>by
     obtain⟨i,ei⟩:=ex a (yL.mp ha).2
     obtain⟨j,ej⟩:=ex b (yL.mp hb).2
     rw[val a i ei,val b j ej] at e
     have:(i:Int)=(j:Int):=e
     have:i=j:=by omega
     subst this
     rw[ei] at ej
     exact Option.some.inj ej
   unfold List.Nodup
   rw[a4Z]
   exact((nd.sublist a5W).imp_of_mem fun {a b} ha hb q e=>q (inj a ha b hb e))
 refine ZV (sL hs (hp.nodup_iff.mpr ndL)) (iX (iZ Ds k)) fun x=>?_
 rw[hp.mem_iff,memL,iY]
end DL
namespace DL
open PySem PySem.Spec L2
def chD (c:List Nat):PyData:=.tuple ((T1 c).map .int)
end DL
namespace L2
open PySem PySem.Spec PyProof.Rows PySem.SeqAt
theorem Y2 {vs:List (Key×Value)}(h:KV [] vs):vs=[]:=by unfold KV at h;cases h;rfl
theorem P6 {P P':Program}{w w':World}{h:Heap}{a:Addr}(d:h.DictOf (AH P w) a []):h.DictOf (AH P' w') a []:=by
 obtain⟨o,es,ep,ho,ex,hd,_,hp,nd⟩:=d
 have he:es=#[]:=by
   have:=hp.length
   apply Array.eq_empty_of_size_eq_zero
   simpa using this
 subst he
 exact⟨o,#[],ep,ho,ex,hd,(by intro e hi;simp at hi),.nil,by simp⟩
end L2
namespace DL
open PySem PySem.Spec L2 XC
theorem J3:∀{ls ls':List (Str×Deed)},ls.map BN=ls'.map BN->ls=ls'
 | [],[],_=>rfl
 | [],_::_,h=>by simp at h
 | _::_,[],h=>by simp at h
 | a::r,b::s,h=>by
   simp only[zI,List.cons.injEq] at h
   obtain⟨h1,h2⟩:=h
   have h1:a9V [.str a.1,a.2.d] = .tuple [.str b.1,b.2.d]:=h1
   simp only[PyData.tuple.injEq,List.cons.injEq,PyData.str.injEq,and_true] at h1
   rw[J3 h2]
   exact congrArg (·::s) (Prod.ext h1.1 (EO h1.2))
theorem DC {w w':List Th}{ls ls':List (Str×Deed)}(h:AL w ls=AL w' ls'):ls=ls':=by
 unfold AL at h
 simp only[PyData.tuple.injEq,List.cons.injEq,and_true] at h
 exact J3 h.2
abbrev dsL (ls:List (Str×Deed)):List Deed:=ls.map (·.2)
abbrev AO (ls:List (Str×Deed)):PyData:=.tuple (ls.map BN)
structure goodB (w:List Th) (ls:List (Str×Deed)):Prop where
 fresh:FreshD (dsL ls)
 real:∀l∈ls,l.2.real
 few:ls.length<=50
 hands:∀l∈ls,AM l.1
abbrev IH (ns:List Nat):List PyData:=(T1 ns).map .int
def K1 (n:Nat) (d:PyData):Bool:=IW d 0 ((n:Int) - 1)
theorem nB {n:Nat}{d:PyData}(h:K1 n d=true):∃m:Nat,d = .int m/\m < n:=by
 cases d <;> first | (exfalso;exact nft h) | skip
 rename_i i
 have h:(decide (0<=i)&&decide (i<=(n:Int) - 1))=true:=h
 simp only[a0V,decide_eq_true_eq] at h
 exact⟨i.toNat,by congr 1;omega,by omega⟩
theorem Y3 {n m:Nat}(h:m < n):K1 n (.int (m:Int))=true:=by
 show(decide ((0:Int)<=(m:Int))&&decide ((m:Int)<=(n:Int) - 1))=true
 simp only[a0V,decide_eq_true_eq];omega
theorem j6 (ns:List Nat):(IH ns).length=ns.length:=by simp[T1]
section
variable {M:Own}{Q:DS->Own->Prop}{w:List Th}{ls:List (Str×Deed)}
def II:FSp:=⟨fun xs M=>∃(w:List Th) (ls:List (Str×Deed)),xs=[.d (AL w ls)]/\goodB w ls,fun xs M y M'=>∀(w:List Th) (ls:List (Str×Deed)),xs=[.d (AL w ls)]->∃p,M p=none/\y = .loc p/\M'=M.put p (.d (AS (mkL (dsL ls) 0)))⟩
theorem VU (hg:goodB w ls) (q:∀p,M p=none->Q (.loc p) (M.put p (.d (AS (mkL (dsL ls) 0))))):[DS.d (AL w ls)].length=1/\II.pre [.d (AL w ls)] M/\∀x M',II.post [.d (AL w ls)] M x M'->Q x M':=
 ⟨rfl,⟨w,ls,rfl,hg⟩,fun x M' h=>by obtain⟨p,hp,rfl,rfl⟩:=h w ls rfl;exact q p hp⟩
def DY:FSp:=⟨fun xs M=>∃(w:List Th) (ls:List (Str×Deed)) (d:PyData),xs=[.d (AL w ls),.d d],fun xs M y M'=>∀(w:List Th) (ls:List (Str×Deed)) (d:PyData),xs=[.d (AL w ls),.d d]->y = .d (.bool (K1 ls.length d))/\M'=M⟩
theorem Y4 {d:PyData}(q:Q (.d (.bool (K1 ls.length d))) M):[DS.d (AL w ls),.d d].length=2/\DY.pre [.d (AL w ls),.d d] M/\∀x M',DY.post [.d (AL w ls),.d d] M x M'->Q x M':=
 ⟨rfl,⟨w,ls,d,rfl⟩,fun x M' h=>by obtain⟨rfl,rfl⟩:=h w ls d rfl;exact q⟩
def T2:FSp:=⟨fun xs M=>∃(w:List Th) (ls:List (Str×Deed)) (k:Nat),xs=[.d (AL w ls),.d (.int k)]/\goodB w ls/\k < ls.length,fun xs M y M'=>∀(w:List Th) (ls:List (Str×Deed)) (k:Nat),xs=[.d (AL w ls),.d (.int k)]->y = .d (chD (EA (dsL ls) k))/\M'=M⟩
theorem Y5 {k:Nat}(hg:goodB w ls) (hk:k < ls.length) (q:Q (.d (chD (EA (dsL ls) k))) M):[DS.d (AL w ls),.d (.int k)].length=2/\T2.pre [.d (AL w ls),.d (.int k)] M/\∀x M',T2.post [.d (AL w ls),.d (.int k)] M x M'->Q x M':=
 ⟨rfl,⟨w,ls,k,rfl,hg,hk⟩,fun x M' h=>by obtain⟨rfl,rfl⟩:=h w ls k rfl;exact q⟩
def RM (D:Deed):Str:=D.made.getD (a0Q "")
def DZ:FSp:=⟨fun xs M=>∃D:Deed,xs=[.d D.d]/\D.real,fun xs M y M'=>∀D:Deed,xs=[.d D.d]->y = .d (.str (RM D))/\M'=M⟩
theorem cE {D:Deed}(hr:D.real) (q:Q (.d (.str (RM D))) M):[DS.d D.d].length=1/\DZ.pre [.d D.d] M/\∀x M',DZ.post [.d D.d] M x M'->Q x M':=
 ⟨rfl,⟨D,rfl,hr⟩,fun x M' h=>by obtain⟨rfl,rfl⟩:=h D rfl;exact q⟩
def CM:FSp:=⟨fun xs M=>∃D:Deed,xs=[.d D.d]/\D.real,fun xs M y M'=>∀D:Deed,xs=[.d D.d]->y = .d (AX D.must)/\M'=M⟩
theorem cF {D:Deed}(hr:D.real) (q:Q (.d (AX D.must)) M):[DS.d D.d].length=1/\CM.pre [.d D.d] M/\∀x M',CM.post [.d D.d] M x M'->Q x M':=
 ⟨rfl,⟨D,rfl,hr⟩,fun x M' h=>by obtain⟨rfl,rfl⟩:=h D rfl;exact q⟩
def CC:FSp:=⟨fun xs M=>∃(ls:List (Str×Deed)) (k:Nat),xs=[.d (AO ls),.d (.int k)]/\goodB [] ls/\k < ls.length,fun xs M y M'=>∀(ls:List (Str×Deed)) (k:Nat),xs=[.d (AO ls),.d (.int k)]->y = .d (.list (IH (EA (dsL ls) k)))/\M'=M⟩
theorem VW {k:Nat}(hg:goodB [] ls) (hk:k < ls.length) (q:Q (.d (.list (IH (EA (dsL ls) k)))) M):[DS.d (AO ls),.d (.int k)].length=2/\CC.pre [.d (AO ls),.d (.int k)] M/\∀x M',CC.post [.d (AO ls),.d (.int k)] M x M'->Q x M':=
 ⟨rfl,⟨ls,k,rfl,hg,hk⟩,fun x M' h=>by obtain⟨rfl,rfl⟩:=h ls k rfl;exact q⟩
theorem goodB.any {w w':List Th}{ls:List (Str×Deed)}(h:goodB w ls):goodB w' ls:=⟨h.fresh,h.real,h.few,h.hands⟩
end
def fEn:PyData->Str | .tuple [_,.str x]=>x | _=>a0Q ""
def wEn:PyData->PyData | .tuple [i,_]=>i | _=>.none
def cEn:PyData->Bool | .tuple [_,.none]=>false | _=>true
theorem ZW:∀(Ds:List Deed) (o:Nat),((((Ds.map fun D=>FS D.d).zipIdx o).map fun p=>a9V [.int (p.2:Nat),p.1]).filter cEn).map (fun d=>(fEn d,wEn d))=mkL Ds o
 | [],o=>rfl
 | D::r,o=>by
   have ih:=ZW r (o+1)
   rw[zI,List.zipIdx_cons,zI,a6W]
   rw[NF]
   cases h:D.made with
   | none=>
     rw[mkL,h]
     show(if cEn (.tuple [.int (o:Nat),.none])=true then _ else _:List PyData).map _=_
     rw[show cEn (.tuple [.int (o:Nat),.none])=false from rfl,if_neg nft]
     exact ih
   | some x=>
     rw[mkL,h]
     show(if cEn (.tuple [.int (o:Nat),.str x])=true then _ else _:List PyData).map _=_
     rw[show cEn (.tuple [.int (o:Nat),.str x])=true from rfl,if_pos rfl,zI,ih]
     rfl
theorem Y6 {D:Deed}(h:D.real):D.must.Nodup:=by
 unfold Deed.must
 refine List.Nodup.sublist a5W ?_
 have ha:=h.2.1
 cases D <;> first | (simp[Deed.names];done) | (simp only[Deed.names,xV,a9W,xX,not_false_eq_true,List.nodup_nil,and_true];exact ha)
end DL
namespace DL
open PySem PySem.Spec L2 XC
theorem IJ (ns:List Nat):zH (.list (IH ns))=true:=by
 refine BY (JW fun d hd=>?_) ?_
 · obtain⟨y,h1,rfl⟩:=zL.mp hd
   rfl
 · have:a2X (IH ns)<=0:=SG fun d hd=>by
     obtain⟨y,h1,rfl⟩:=zL.mp hd
     simp[a4W]
   simp only[a4W];omega
theorem P7:∀{Ds:List Deed}{so sp:List Str},LU so sp Ds->∀D∈Ds,D.real
 | D::r,so,sp,h,E,hE=>by
   rcases yX.mp hE with rfl | q
   · exact h.2.2.1
   · exact P7 h.2.2.2 E q
def cMk (Ds:List Deed):PyData->Bool | .str n=>(AU (mkL Ds 0) n).isSome | _=>false
def fMk (Ds:List Deed):PyData->PyData | .str n=>(AU (mkL Ds 0) n).getD .none | _=>.none
def sM (Ds:List Deed) (n:Str):Int:=match AU (mkL Ds 0) n with | some (.int i)=>i | _=>0
theorem cG {Ds:List Deed}(hf:FreshD Ds) (ms:List Str):((ms.map a1X).filter (cMk Ds)).map (fMk Ds)=((ms.filter fun n=>(AU (mkL Ds 0) n).isSome).map (sM Ds)).map .int:=by
 rw[xU,zD,zD]
 apply yM
 intro n hn
 have h2:(AU (mkL Ds 0) n).isSome=true:=(yL.mp hn).2
 show(AU (mkL Ds 0) n).getD .none = .int (sM Ds n)
 unfold sM
 rcases NH Ds 0 hf.one n with ⟨a,_⟩ | ⟨j,_,b⟩
 · rw[a] at h2;cases h2
 · rw[b];rfl
theorem NI {ls:List (Str×Deed)}{k:Nat}(hk:k < ls.length):∃l,ls[k]?=some l/\l∈ls/\(ls.map BN)[k]?=some (.tuple [.str l.1,l.2.d])/\(dsL ls)[k]?=some l.2:=
 ⟨ls[k],zV hk,b1V hk,by rw[zF,zV hk];rfl,by rw[zF,zV hk];rfl⟩
end DL
namespace DL
open PySem PySem.Spec L2
theorem Y7 {t:Th}(h:AM t.1):zH (thD t)=true:=by
 refine BY ?_ ?_
 · exact JW (ds:=[.str t.1,.int t.2.1,.int t.2.2]) fun d hd=>by
     simp only[yX,xX,or_false] at hd
     rcases hd with rfl | rfl | rfl
     · exact EL h
     · rfl
     · rfl
 · simp[thD,a4W,a2X]
theorem RN {w:List Th}(h:E9 w):zH (wD w)=true:=by
 refine BY (JW fun d hd=>?_) ?_
 · obtain⟨t,ht,rfl⟩:=zL.mp hd
   exact zG (Y7 (h.2 t ht).1)
 · have:a2X (w.map thD)<=3:=SG fun d hd=>by
     obtain⟨t,ht,rfl⟩:=zL.mp hd
     simp[thD,a4W,a2X]
   simp only[wD,a4W]
   omega
theorem cH {D:Deed}(h:D.ok):zH D.d=true:=by
 have wk:b7X (.str D.word)=true:=zG D.word_ok
 have nk:∀x∈D.names,b7X (.str x)=true:=fun x hx=>EL (h x hx)
 refine BY ?_ (by cases D <;> simp[Deed.d,a4W,a2X])
 cases D <;> (refine JW ?_;simp only[List.forall_mem_cons])
 · exact⟨wk,nk _ (by simp[Deed.names]),rfl,rfl,by simp⟩
 · exact⟨wk,nk _ (by simp[Deed.names]),by simp⟩
 · exact⟨wk,nk _ (by simp[Deed.names]),rfl,by simp⟩
 · exact⟨wk,nk _ (by simp[Deed.names]),rfl,by simp⟩
 · exact⟨wk,nk _ (by simp[Deed.names]),nk _ (by simp[Deed.names]),by simp⟩
 · exact⟨wk,nk _ (by simp[Deed.names]),nk _ (by simp[Deed.names]),rfl,rfl,by simp⟩
 · exact⟨wk,nk _ (by simp[Deed.names]),nk _ (by simp[Deed.names]),by simp⟩
theorem KH {d:PyData}(h:zH d=true):a0Z d d=true:=PySem.SeqAt.eqv_refl _ (zG h)
end DL
namespace DL
open PySem PySem.Spec L2 XC
theorem T3 {w:List Th}{ls:List (Str×Deed)}(h:goodB w ls):zH (AO ls)=true:=by
 refine BY (JW fun d hd=>?_) ?_
 · obtain⟨l,hl,rfl⟩:=zL.mp hd
   refine JW ?_
   simp only[List.forall_mem_cons]
   exact⟨EL (h.hands l hl),zG (cH (h.real l hl).1),by simp⟩
 · have:a2X (ls.map BN)<=5:=SG fun d hd=>by
     obtain⟨l,hl,rfl⟩:=zL.mp hd
     have:l.2.d.depth<=3:=by cases l.2 <;> simp[Deed.d,a4W,a2X]
     simp only[BN,a4W,a2X];omega
   simp only[a4W];omega
theorem cI (ls:List (Str×Deed)):a0Z (AO ls) (.tuple [])=ls.isEmpty:=by
 cases ls with
 | nil=>rfl
 | cons y r=>simp[a0Z,PyData.eqvAll]
theorem j7 (ys:List Str) (z:Str):((ys.map a1X).any fun e=>a0Z e (.str z))=decide (z∈ys):=by
 rw[a8Z,c0X,decide_eq_true_iff]
 constructor
 · rintro⟨d,hd,he⟩
   obtain⟨y,hy,rfl⟩:=zL.mp hd
   rw[BK] at he
   rw[← eq_of_beq he];exact hy
 · intro h
   exact⟨.str z,zL.mpr ⟨z,h,rfl⟩,by rw[BK];simp⟩
theorem RO {D:Deed}(h:D.real) {z:Str}(hz:z∈D.must):AM z:=h.1 z (yL.mp hz).1
theorem nC {ls:List (Str×Deed)}{w:List Th}(hg:goodB w ls) {j k:Nat}{a b:Str×Deed}(ha:ls[j]?=some a) (hb:ls[k]?=some b):decide (RM a.2∈b.2.must)=FI (dsL ls) k j:=by
 have e1:mkN (dsL ls) j=a.2.made:=by unfold mkN;rw[zF,ha];rfl
 have e2:RJ (dsL ls) k=b.2.must:=by unfold RJ;rw[zF,hb];rfl
 unfold FI RM
 rw[e1,e2]
 cases hm:a.2.made with
 | some x=>rfl
 | none=>
   refine decide_eq_false fun q=>?_
   have:=(RO (hg.real b (yN hb)) q).1
   exact absurd this (by decide +kernel)
theorem cJ {D:Deed}(h:D.real):zH (.str (RM D))=true:=by
 unfold RM
 cases hm:D.made with
 | none=>decide +kernel
 | some x=>
   refine AK (h.1 x ?_)
   cases D <;> simp[Deed.made] at hm <;> simp[Deed.names,hm]
def cNd (Ds:List Deed) (k:Nat):PyData->Bool | .int i=>FI Ds k i.toNat | _=>false
theorem VX (Ds:List Deed) (k:Nat):((C8 0 (k:Int).toNat).filter (cNd Ds k)).map id=IH (EA Ds k):=by
 rw[b6Z]
 unfold C8 EA IH T1
 rw[xU,zD,show(k:Int).toNat=k from a4K k]
 have e:(cNd Ds k∘fun(i:Nat)=>b4X (0+i))=fun j=>FI Ds k j:=by
   funext i
   show FI Ds k ((0:Int)+(i:Int)).toNat=_
   rw[b2K,a4K]
 rw[e]
 apply yM
 intro i _
 show b4X (0+(i:Int)) = .int (i:Int)
 rw[b2K]
theorem nD {n k:Nat}{d:PyData}(h:(C8 0 ((n:Nat):Int).toNat)[k]?=some d):k < n/\d = .int (k:Int):=by
 have hl:k < n:=by have:=(yT.mp h).1;simpa [C8] using this
 refine⟨hl,?_⟩
 unfold C8 at h
 rw[zF,yA (by omega)] at h
 simp at h;exact h.symm
theorem j8 {n:Nat}{d:PyData}(h:d∈C8 0 ((n:Nat):Int).toNat):∃k:Nat,k < n/\d = .int (k:Int):=by
 obtain⟨k,hk,e⟩:=List.mem_iff_getElem.mp h
 exact⟨k,nD (n:=n) (by rw[zV hk,e])⟩
theorem j9 (n:Nat):(C8 0 ((n:Nat):Int).toNat).length=n:=by simp[C8]
end DL
namespace DL
open PySem PySem.Spec L2
def dsT (w:List Th) (Ds:List Deed):List Th:=Ds.foldl doT w
theorem VY {w:List Th}{Ds:List Deed}{k:Nat}{D:Deed}(h:Ds[k]?=some D):dsT w (Ds.take (k+1))=doT (dsT w (Ds.take k)) D:=by
 unfold dsT
 rw[b0V,h,List.foldl_append]
 rfl
theorem ZX {ts W:List Th}{D:Deed}(nd:(ts.map (·.1)).Nodup) (e:B0 ts=W) (hg:goD W D) (hl:ts.length < 63):goD ts D/\B0 (doT ts D)=GZ W D:=by
 have p:ts.Perm W:=by rw[← e];exact(B3 ts).symm
 have ha:B9 (ts.map (·.1)) D=none:=by rw[OZ (p.map (·.1))];exact hg.2.2
 have g1:goD ts D:=⟨⟨nd,hl⟩,hg.2.1,ha⟩
 refine⟨g1,?_⟩
 have nW:=(LO hg).1
 refine RG (LO g1).1 (HZ nW) fun n=>?_
 rw[show GZ W D=B0 (doT W D) from rfl] at *
 rw[VI nW,CU hg.2.1 ha,CU hg.2.1 hg.2.2]
 have lk:∀x,AE ts x=AE W x:=fun x=>RF nd p x
 cases D <;> simp only[lk]
theorem T4 {w:List Th}{Ds:List Deed}(hb:JA w Ds) (hw:E9 w) (hl:w.length+Ds.length < 60):∀k,k<=Ds.length->((dsT w (Ds.take k)).map (·.1)).Nodup/\B0 (dsT w (Ds.take k))=wsF w Ds k
 | 0,_=>⟨hw.1.nodup,by show B0 w=D9 w [];exact RA hw.1⟩
 | k+1,hk=>by
   obtain⟨nd,e⟩:=T4 hb hw hl k (by omega)
   have hD:Ds[k]?=some Ds[k]:=zV (by omega)
   obtain⟨f1,f2,f3⟩:=J2 hb hw (by omega) (show k<=Ds.length by omega)
   have hlen:(dsT w (Ds.take k)).length=(wsF w Ds k).length:=by rw[← e,(B3 _).length_eq]
   obtain⟨g,q⟩:=ZX nd e (f3 _ hD) (by omega)
   rw[VY hD,ZO hD]
   exact⟨(LO g).1,q⟩
theorem jA {ts:List Th}{x y:Str}(h:x≠y) (p c:Int):E8 (EY ts x p c) y=EY (E8 ts y) x p c:=by
 unfold EY E8
 have e:((ts.filter fun t=>decide (t.1≠y)).any fun t=>decide (t.1=x))=ts.any fun t=>decide (t.1=x):=by
   rw[List.any_filter]
   congr 1
   funext t
   by_cases q:t.1=x
   · simp[q,h]
   · simp[q]
 rw[e]
 split
 · rw[xU]
   congr 1
   apply List.filter_congr
   intro t _
   show decide ((if t.1=x then (t.1,p,c) else t).1≠y)=decide (t.1≠y)
   split <;> rfl
 · rw[List.filter_append]
   congr 1
   simp[h]
def IK:Str:= "aabbccdd"
def MX:List Str:=IK::XR
theorem P8:IK.cps.toList=[97,97,98,98,99,99,100,100]:=by decide +kernel
theorem T5 {z:Str}(h1:z≠IK) (h2:z∉XR):z∉MX:=fun h=>(yX.mp h).elim h1 h2
theorem jB {z:Str}{n c:Nat}(h:z.cps.toList=a2Z n c):z∉MX:=T5 (fun e=>by
 have key:∀a∈z.cps.toList,a=c:=fun a ha=>by rw[h] at ha;exact a8Q ha
 rw[e,P8] at key
 have h1:=key 97 (by simp)
 have h2:=key 98 (by simp)
 omega) (m6 h)
theorem jC {z:Str}{c:Nat}{m:List Nat}(h:z.cps.toList=c::m) (hr:Run m):z∉MX:=T5 (fun e=>by
 rw[e,P8] at h
 injection h with _ h
 subst h
 exact absurd (hr 1 98 98 rfl rfl) (by decide)) (m7 h hr)
theorem jD {z:Str}{c:Nat}{m:List Nat}(h:z.cps.toList=m++[c]) (hr:Run m):z∉MX:=T5 (fun e=>by
 have hm:m=z.cps.toList.dropLast:=by rw[h];simp
 rw[e,P8] at hm
 subst hm
 exact absurd (hr 0 97 97 rfl rfl) (by decide)) (m8 h hr)
end DL
namespace L2
open PySem PySem.Spec PyProof.Rows
open AutoSeq1 (wpAny_loadPart')
section
variable {prog:Program}{w:World}{A:Around}{E:Value->Shared->Prop}{s:Shared}
theorem ZY {it l:Addr}{i:Nat}{items:Array Value}(hh:A.handled=none) (hx:items[i]?=none):NxE prog w A it (fun h=>h.IsTupleIter it l i/\h.IsTuple l items):=fun s Q E hS hE=>by
 obtain⟨hit,ht⟩:=hS;obtain⟨o,ho,hc,hd⟩:=id hit;obtain⟨ol,hol,_,nl,hdl⟩:=id ht
 unfold a2K;refine zZ (wpAny_callSpecial?_slot (name:=a0Q "__next__") hit.typeIs b1W (wpAny_call_entry b1W hit.typeIs F.entry_tuple_iterator_next ?_ (F.args_tuple_iterator_next_1 _)));show wpAny _ _ (field (.ref it) 0 >>= _) _ _ s
 refine zZ (wpAny_field ho hd (x:=.ref l) rfl ?_);show wpAny _ _ (if (a0X l==a1J)=true then _ else _) _ _ s;rw[if_neg (show ¬((a0X l==a1J)=true) from nft)]
 show wpAny _ _ (field (.ref it) 1 >>= _) _ _ s;refine zZ (wpAny_field ho hd (x:=.int i 0) rfl ?_);show wpAny _ _ (seqItems? (.ref l) >>= _) _ _ s
 refine zZ (wpAny_seqItems hol hdl ?_);simp only[a4K,hx];refine zZ (wpAny_rule (zZ (wpAny_setField ho hd (by simp) ?_)))
 show wpAny _ _ (newExc (.type "StopIteration") [] >>= _) _ _ _;refine zZ ?_;simp only[newExc,newTuple]
 refine zZ (xM ?_ (by size_fits));refine zZ (m:=firstArgMember _ _) (wpAny_of_eq (a:=a1J) (by first | rfl | (simp only[firstArgMember];rfl)) ?_);refine xM ?_ (by size_fits)
 simp only[raiseNew];refine zZ (wpAny_handled ?_);first | rw[show A.in1.handled=none from hh] | rw[hh]
 refine zZ (zY (wpAny_throw ?_));exact hE _ _ (((b9W ..).extBut.push _).push _) ⟨_,yZ _ rfl,rfl⟩
theorem cK (hh:A.handled=none) (it l:Addr) (hne:l≠it) (items:Array Value):Draws prog w A it [it,l] items.size (fun i v=>items[i]?=some v) (fun i h=>h.IsTupleIter it l i/\h.IsTuple l items) where
 live:=fun _ _ st=>let ⟨o,ho,_⟩:=st.1;⟨o,ho⟩
 frame:=fun _ _ _ st hk=>⟨st.1.at fun o e=>hk it (by simp) o e,let ⟨o,e,r⟩:=st.2;⟨o,hk l (by simp) o e,r⟩⟩
 item:=fun i s Q E hi st hQ=>gC hne (y:=items[i]) (by simp[hi]) s Q E st fun h' tk x e a b=>hQ x h' tk (by rw[e];simp[hi]) a b
 done:=fun s Q E st hE=>ZY hh (by simp) s Q E st hE
theorem cL {e it l:Addr}{i:Nat}{items:Array Value}{old:Value}{Q:Option Value->Shared->Prop}(hh:A.handled=none) (he:IsEnum s.heap e it i old) (hit:s.heap.IsTupleIter it l i) (hl:s.heap.IsTuple l items) (hx:items[i]?=none)
   (hQ:∀h',Heap.ExtBut it s.heap h'->Q none { s with heap:=h' }):wpAny (model prog w) A (pyNext (.ref e)) Q E s:=by
 have hT:s.TypeIs (.ref e) "enumerate" := ⟨_,he,rfl⟩;unfold pyNext
 refine zZ (wpAny_attempt (wpAny_callSpecial?_slot (name:=a0Q "__next__") hT F.slot_enumerate_next (wpAny_call_entry F.slot_enumerate_next hT F.entry_enumerate_next ?_ (F.args_enumerate_next_1 _))));show wpAny _ _ (field (.ref e) 2 >>= _) _ _ _
 refine zZ (wpAny_field he rfl (x:=.ref it) rfl (zZ (ZY (A:=A.in1) hh hx _ _ _ ⟨hit,hl⟩ fun h' x he' hx'=>?_)));obtain⟨o,ho,hc⟩:=hx'
 exact zZ (wpAny_isInstance (T:= "StopIteration") (b:=true) ⟨o,ho,hc⟩ isSubtype_stop (zY (hQ _ he')))
theorem VZ (l:Addr) (items:Array Value) :
   Meets (Builtin.«enumerate.__new__» ⟨[.type "enumerate", .ref l],[]⟩) (fun _ R s=>s.heap.IsTuple l items /\
     R (.ok (.ret (.ref (s.heap.push { cls:=.type "tuple_iterator", data:=.fields #[.ref l,.int 0 0] }).objs.size)))
       { s with heap:=(s.heap.push { cls:=.type "tuple_iterator", data:=.fields #[.ref l,.int 0 0] }).push { cls:=.type "enumerate", data:=.fields #[.none,.bool false,.ref s.heap.objs.size,rawInt 0,.none,.none] } }):=
 .of_wp fun prog w A R s h=>by
   obtain⟨hp,g,d,tk,os⟩:=s;obtain⟨hL,h⟩:=h;have hsub:=sub_enumerate;obtain⟨⟨c,dct,dt,sl⟩,hl,hc,n,hd⟩:=id hL
   wp_walk using wpAny_loadPart' hl
   refine wpAny_stack_any fun st=>zY ?_;split
   · rename_i c _ _ _ _ _;cases (c==b8Z "enumerate") <;> (wp_walk using wpAny_loadPart' hl,wpAny_pyIter_tuple hL;exact⟨_,rfl,h⟩)
   · (wp_walk using wpAny_loadPart' hl,wpAny_pyIter_tuple hL;exact⟨_,rfl,h⟩)
theorem Y8 {l:Addr}{items:Array Value}{Q:Value->Shared->Prop}(hL:s.heap.IsTuple l items)
   (h:∀h',IsEnum h' (s.heap.objs.size+1) s.heap.objs.size 0 .none->h'.IsTupleIter s.heap.objs.size l 0 ->
     (∀b o,s.heap.get? b=some o->h'.get? b=some o)->Q (.ref (s.heap.objs.size+1)) { s with heap:=h' }) :
   wpAny (model prog w) A (call (.type "enumerate") [.ref l]) Q E s:=by
 refine callType_new F.called_enumerate (by decide) (F.typeCall_enumerate_1 _) (F.newCall_enumerate_1 _) (fun obj=>F.args_object_init_2 obj _) F.entry_enumerate_new (VZ l items) ⟨hL,?_⟩
 have hz:(s.heap.push { cls:=.type "tuple_iterator", data:=.fields #[.ref l,.int 0 0] }).objs.size=s.heap.objs.size+1:=a5J ..
 show _/\_
 rw[hz]
 have he:IsEnum ((s.heap.push { cls:=.type "tuple_iterator", data:=.fields #[.ref l,.int 0 0] }).push
     { cls:=.type "enumerate", data:=.fields #[.none,.bool false,.ref s.heap.objs.size,rawInt 0,.none,.none] }) (s.heap.objs.size+1) s.heap.objs.size 0 .none:=by
   have:=yZ (s.heap.push { cls:=.type "tuple_iterator", data:=.fields #[.ref l,.int 0 0] })
     (o:={ cls:=.type "enumerate", data:=.fields #[.none,.bool false,.ref s.heap.objs.size,rawInt 0,.none,.none] }) rfl
   rw[hz] at this;exact this
 exact⟨⟨_,he,rfl⟩,h _ he ⟨_,zW _ (yZ _ rfl),rfl,rfl⟩ fun b o x=>zW _ (zW _ x)⟩
end
end L2
namespace L2
open PySem PySem.Spec PyProof.Rows
def uS (K:Frg) (l:Addr):It:=
 ⟨fun i H=>∃xs,SqT K H l xs/\i < xs.length,
  fun i H x H'=>∃p a,H p=none/\x = .ref p/\H'=upd H p (.tup [.int (i:Nat),a])/\∀xs,SqT K H l xs->xs[i]?=some a,
  fun i H=>∃xs,SqT K H l xs/\xs.length<=i⟩
theorem Y9 {P:Program}{w:World}{K:Frg}{elts:List Expr}{kk:Nat}{tpos:Pos}(e it l:Addr) (d1:e≠it) :
   Turn P w K (.Tuple elts kk tpos) (uS K l) [e,it] e (fun i h=>(∃old,IsEnum h e it (i:Nat) old)/\h.IsTupleIter it l i) where
 mem:=by simp
 obj:=fun i h ⟨⟨old,a1⟩,a2⟩ b hb=>by
   simp only[yX,xX,or_false] at hb
   rcases hb with rfl | rfl
   · exact⟨_,a1,fun v q=>by cases q⟩
   · obtain⟨o,q,c,d⟩:=a2;exact⟨o,q,fun v z=>by rw[d] at z;cases z⟩
 keep:=fun i h h' ⟨⟨old,a1⟩,a2⟩ k=>⟨⟨old,k e (by simp) _ a1⟩,a2.at fun o q=>k it (by simp) o q⟩
 item:=by
   intro X hP hw hK hc i pins s σ H E I hf ⟨⟨old,a1⟩,a2⟩ hg
   subst hP hw hK
   obtain⟨xs,hx,lx⟩:=hg
   obtain⟨its,rx,px,_⟩:=I.tuple hx
   obtain⟨u,hu,ru⟩:=rx.get (zV lx)
   have hle:l≠e:=SN I (hf e (by simp)) hx
   have hli:l≠it:=SN I (hf it (by simp)) hx
   have hln:=rx.length
   refine wpAny_pyNext_enum_itemD (cK (items:=its.toArray) (A:=X.A.in1) (I.ok.hd hc) it l hli) a1 ⟨a2,px⟩ (show i < its.toArray.size by simp;omega) d1 (by simp;exact⟨d1,hle.symm⟩) fun x h' tk ex b1 b2 b3 b4 hk=>?_
   have ex:x=u:=by
     have:its[i]?=some x:=by simpa using ex
     rw[hu] at this
     exact(Option.some.inj this).symm
   subst ex
   refine⟨_,rfl,wpAny_letOwnedTupleGo_enum (s:={ s with heap:=h',toks:=tk+1 }) b1 fun h2 c1 sb=>?_⟩
   have lt:∀{c o},s.heap.get? c=some o->s.heap.objs.size≠c:=fun q=>a5K (zM q)
   have keep:∀b o,b∉[e,it]->s.heap.get? b=some o->h2.get? b=some o:=fun b o hb q=>by
     simp only[yX,xX,or_false,not_or] at hb
     exact sb.extBut b o hb.1 (hk b o hb.1 hb.2 q)
   have hTe:s.heap.objs.size≠e:=lt a1
   have I1:Inv X pins σ (upd H s.heap.objs.size (.tup [.int (i:Nat),xs[i]])) { s with heap:=h2,toks:=tk+1 }:=I.turnedT (t':=tk+1) (ch:=[e,it]) keep (fun b hb=>(hf b hb).1)
     (fun b hb=>let q:=hf b hb;⟨q.2.2.2.1,q.2.1,q.2.2.2.2.1,q.2.2.2.2.2⟩) (zR _)
     ⟨by show 2<=sizeLine;decide,[.int (i:Nat) tk,x],.cons ⟨_,rfl⟩ (.cons ru .nil),⟨_,sb.extBut _ _ hTe b3,rfl,_,rfl⟩⟩
   refine⟨.ref s.heap.objs.size,_,I1,rfl,⟨s.heap.objs.size,xs[i],I.hok.fresh (zR _),rfl,rfl,fun xs' hx'=>?_⟩,⟨⟨_,c1⟩,let ⟨o,q,r⟩:=b2.1;⟨o,sb.extBut it o (a8J d1) q,r⟩⟩,fun b hb=>?_⟩
   · rw[I.tuple_inj hx' hx]
     exact zV lx
   · have hlt:s.heap.objs.size≠b:=by
       simp only[yX,xX,or_false] at hb
       rcases hb with rfl | rfl
       · exact lt a1
       · obtain⟨o,q,_⟩:=a2;exact lt q
     rw[AF (a8J hlt)]
     exact(hf b hb).1
 done:=by
   intro X hP hw hK hc i pins s σ H E I hf ⟨⟨old,a1⟩,a2⟩ hg
   subst hP hw hK
   obtain⟨xs,hx,hend⟩:=hg
   obtain⟨its,rx,px,_⟩:=I.tuple hx
   have e1:=rx.length
   have hli:l≠it:=SN I (hf it (by simp)) hx
   refine cL (I.ok.hd hc) a1 a2 px (by rw[c0Z];simp;omega) fun h' hk=>⟨rfl,I.turnedL (t':=s.toks) (ch:=[e,it]) (fun b o hb q=>?_) (fun b hb=>(hf b hb).1) fun b hb=>let q:=hf b hb;⟨q.2.2.2.1,q.2.1,q.2.2.2.2.1,q.2.2.2.2.2⟩⟩
   simp only[yX,xX,or_false,not_or] at hb
   exact hk b o hb.2 q
 self:=fun _ _ _ _ _ st h=>let ⟨_,q⟩:=st.1;wpAny_pyIter_enum q h
section
variable {X:Cx}{K:Frg}
def jE (K:Frg) (ta:TA):TI:=fun σ H R=>ta σ H fun vs H1=>∃a,vs=[.ref a]/\(∃xs,SqT K H1 a xs)/\R (uS K a) H1
theorem sN {a:Expr}{ta:TA}{p pos:Pos}{elts:List Expr}{kk:Nat}{tpos:Pos}(hk:X.K=K) (hg:Gl X "enumerate") (hm:X.mg "enumerate"=none) (ha:PA X [a] ta) (hs:starEach [a] X.env=[(false,eval a X.env)]:=by rfl) :
   PI X (.Tuple elts kk tpos) (.Call (.Name "enumerate" p) [a] [] pos) (jE K ta):=by
 subst hk
 intro pins s σ H R I h
 refine Call_ (JO I hg hm boot_enumerate (xH (thn (ha pos pins s σ H _ I h) fun us s1 ⟨vs,H1,I1,r1,q1⟩=>?_) hs rfl))
 obtain⟨l,e,⟨xs,hx⟩,q⟩:=q1
 subst e
 obtain⟨u,rfl,ru⟩:=DN r1
 cases ru
 obtain⟨its,rx,px,_⟩:=I1.tuple hx
 refine Y8 px fun h' b1 b2 hk=>?_
 refine wpAny_pyIter_enum (s:={ s1 with heap:=h' }) b1 ?_
 refine⟨s1.heap.objs.size+1,[s1.heap.objs.size+1,s1.heap.objs.size],_,_,H1,rfl,I1.kept (t':=s1.toks) hk,Y9 (s1.heap.objs.size+1) s1.heap.objs.size l (Nat.succ_ne_self _),⟨⟨_,b1⟩,b2⟩,fun b hb=>?_,q⟩
 have hle:s1.heap.objs.size<=b:=by
   simp only[yX,xX,or_false] at hb
   rcases hb with rfl | rfl
   · exact a9Q _ _
   · exact zR _
 exact I1.fpOk hle (I1.hok.fresh hle)
end
end L2
namespace DL
open PySem PySem.Spec L2
section
variable {K:Frg}{ρ:List (Option DS)}{M:Own}{QI:List PyData->Own->Prop}
theorem jF {ta:TA}(h:DA K ta ρ M fun xs M1=>∃as,xs=[.d (.tuple as)]/\QI (EQ as) M1):DI K (jE K ta) ρ M QI:=fun σ H R Rl k=>
 h σ H _ Rl fun vs H1 xs M1 o1 s1 t1 ⟨as,e,q⟩=>by
   subst e
   obtain⟨v,r,rfl,h1,h3⟩:=s1
   cases h3
   unfold SI DV at h1
   obtain⟨a,va,rfl,hl,hd⟩:=h1
   have hlen:(EQ as).length=as.length:=by unfold EQ;rw[zX,b7V]
   refine⟨a,rfl,⟨va,hl.sq⟩,k _ (EQ as) H1 M1 o1 t1 ⟨fun i H' M' hi oa st=>?_,fun H' M' oa st=>?_,fun i H' M' x H2 oa st hi y=>?_⟩ q⟩
   · rw[hlen] at hi
     exact⟨va,(hl.grow st.grow).sq,by rw[hd.length];omega⟩
   · refine⟨va,(hl.grow st.grow).sq,?_⟩
     rw[hlen,hd.length];omega
   · obtain⟨p,xa,hp,rfl,rfl,hy⟩:=y
     have e1:=hy va (hl.grow st.grow).sq
     obtain⟨da,f1,f2⟩:=hd.get e1
     have gg:Grow K M'.W M'.W H' (upd H' p (.tup [.int (i:Nat),xa])):=AW _ hp
     refine⟨oa.new hp,⟨gg⟩,.tuple [.int (i:Nat),da],?_,?_⟩
     · unfold EQ
       rw[zF,List.getElem?_zipIdx,f1]
       simp
     · unfold DV
       exact⟨p,_,rfl,.inl ⟨fun w=>w (oa.none hp),.inl AG⟩,DVs.cons (by unfold DV;rfl) (DVs.cons ((f2.grow st.grow).grow gg) DVs.nil)⟩
end
end DL
namespace L2
open PySem PySem.Spec PyProof.Rows
theorem uT {X:Cx}{body:List Stmt}{h₀:ExceptHandler}{hs:List ExceptHandler}{pos:Pos}{tb:TS}(hx:∀e s,¬X.xe e s) (hb:PSs X body tb):PS X (.Try body (h₀::hs) [] [] pos) tb:=by
 intro pins s σ H D I h
 refine wpAny_Try_except (wpAny_mono (hb pins s σ H D I h) (fun f s1 q=>?_) fun e s1 q=>absurd q (hx _ _))
 cases f with
 | next=>exact wpAny_execs_nil q
 | ret v=>exact q
 | brk=>exact q
 | cont=>exact q
end L2
namespace L2
open PySem PySem.Spec PyProof.Rows PySem.SeqAt
theorem W0 {P:Program}{w:World}{A:Around}{E:Value->Shared->Prop}{s:Shared}{l:Addr}{b:Int}{u:Tok}{Q:Value->Shared->Prop}(ht:s.TypeIs (.ref l) "dict") (hq:Q .notImplemented s) :
   wpAny (model P w) A (call (.builtin "dict.__ne__") [.ref l,.int b u]) Q E s:=by
 refine wpAny_call_entry PySem.F.slot_dict_ne ht PySem.F.entry_dict_ne ?_ (PySem.F.args_dict_ne_2 _ _)
 show wpAny _ _ (Builtin.Dict.dictSlotArgs "__ne__" ⟨[.ref l,.int b u],[]⟩ >>= _) _ _ s
 refine zZ ?_;unfold Builtin.Dict.dictSlotArgs
 refine zZ (wpAny_notOrdered_dict ht ?_);show wpAny _ _ (pure (a0X l,b5W b u)) _ _ s
 refine zY (zZ (wpAny_isInstance (typeIs_int s b u) PySem.F.sub_int_dict ?_))
 simp only[Bool.not_false,if_true]
 exact zZ (wpAny_rule (zY ⟨_,rfl,hq⟩))
theorem W1 {P P':Program}{w w':World}{A:Around}{E:Value->Shared->Prop}{s:Shared}{l:Addr}{b:Int}{u:Tok}{Q:Value->Shared->Prop}(da:s.heap.DictOf (AH P' w') l []) (hq:Q .notImplemented s) :
   wpAny (model P w) A (call (.builtin "int.__ne__") [.int b u,.ref l]) Q E s:=by
 refine wpAny_call_entry PySem.F.slot_int_ne (typeIs_int s b u) PySem.F.entry_int_ne ?_ (PySem.F.args_int_ne_2 _ _)
 have ht:=da.typeIs
 have f1:=PySem.F.sub_dict_int
 obtain⟨o,es,ep,ho,ex,hd,_⟩:=da
 wp_walk using wpAny_isInstance ht PySem.F.sub_dict_int,wpAny_load ho
 rw[hd]
 wp_walk
 exact⟨_,rfl,hq⟩
def rDE (K:Frg):R2:=fun x y H Q=>∃(a b:Addr),x = .ref a/\y = .ref b/\Rd H a (.dK [])/\Rd H b (.dK [])/\Q (.bl true) H
def rDN (K:Frg):R2:=fun x y H Q=>∃(a:Addr) (i:Int),x = .ref a/\y = .int i/\Rd H a (.dK [])/\Q (.bl true) H
theorem uU {X:Cx}(hu:X.A.units+64 < cLine):OpR X (compareOp .Eq) (rDE X.K):=by
 intro pins s σ H x y v u Q I rx ry h
 obtain⟨a,b,rfl,rfl,ha,hb,q⟩:=h
 cases rx
 cases ry
 obtain⟨_,za,va,ka,da⟩:=GV I.hok ha
 obtain⟨_,zb,vb,kb,db⟩:=GV I.hok hb
 rw[Y2 ka] at da
 rw[Y2 kb] at db
 exact PySem.W.keq_eq (knd:=AH X.prog X.w) za zb (P6 da) (P6 db) (by omega) (fun _=>.nil) ⟨.bl true,H,I,rfl,q⟩
theorem uV {X:Cx}(hu:X.A.units+64 < cLine):OpR X (compareOp .NotEq) (rDN X.K):=by
 intro pins s σ H x y v u Q I rx ry h
 obtain⟨a,i,rfl,rfl,ha,q⟩:=h
 cases rx
 obtain⟨t,rfl⟩:=ry
 obtain⟨_,za,va,ka,da⟩:=GV I.hok ha
 have ht:=da.typeIs
 exact rc_ne_decline_or (k:=false) ht (typeIs_int s i t) (by decide) PySem.F.sub_int_dict PySem.F.slot_dict_ne PySem.F.slot_int_ne_refl (fun _ hq=>W0 ht hq) (fun _ hq=>W1 (by rw[Y2 ka] at da;exact da) hq) (fun _ hq=>wpAny_of_eq (rfl:isSame (.ref a) (.int i t)=pure false) hq) (.inr (by omega)) ⟨.bl true,H,I,rfl,q⟩
end L2
namespace DL
open PySem PySem.Spec L2
def nE (K:Frg):R2:=fun x y H Q=>PV K false x y H Q∨rDE K x y H Q
def sO (K:Frg):R2:=fun x y H Q=>PV K true x y H Q∨rDN K x y H Q
theorem w9 {X:Cx}{K:Frg}(h:X.K=K) (hu:X.A.units+64 < cLine):OpR X (compareOp .Eq) (nE K):=by
 subst h
 intro pins s σ H x y v u Q I rx ry h
 rcases h with h | h
 · exact eB hu pins s σ H x y v u Q I rx ry h
 · exact uU hu pins s σ H x y v u Q I rx ry h
theorem uW {X:Cx}{K:Frg}(h:X.K=K) (hu:X.A.units+64 < cLine):OpR X (compareOp .NotEq) (sO K):=by
 subst h
 intro pins s σ H x y v u Q I rx ry h
 rcases h with h | h
 · exact eF hu pins s σ H x y v u Q I rx ry h
 · exact uV hu pins s σ H x y v u Q I rx ry h
section
variable {K:Frg}{M:Own}{Q:DS->Own->Prop}
theorem jG {x y:DS}(h:D2 K (PV K false) x y M Q):D2 K (nE K) x y M Q:=fun H v u QQ oa s1 s2 k=>.inl (h H v u QQ oa s1 s2 k)
theorem LV {x y:DS}(h:D2 K (PV K true) x y M Q):D2 K (sO K) x y M Q:=fun H v u QQ oa s1 s2 k=>.inl (h H v u QQ oa s1 s2 k)
theorem T6 {H:Hp}{v:V}(s:SI K H M (.d (.dict [])) v):∃a:Addr,v = .ref a/\Rd H a (.dK []):=by
 unfold SI DV at s
 obtain⟨a,ks,rfl,nw,hr,hk⟩:=s
 unfold DKV at hk
 subst hk
 exact⟨a,rfl,hr⟩
theorem uX (q:Q (.d (.bool true)) M):D2 K (nE K) (.d (.dict [])) (.d (.dict [])) M Q:=fun H v u QQ oa s1 s2 k=>by
 obtain⟨a,rfl,ha⟩:=T6 s1
 obtain⟨b,rfl,hb⟩:=T6 s2
 exact .inr ⟨a,b,rfl,rfl,ha,hb,k _ H (.d (.bool true)) M oa AJ Step.refl q⟩
theorem uY {i:Int}(q:Q (.d (.bool true)) M):D2 K (sO K) (.d (.dict [])) (.d (.int i)) M Q:=fun H v u QQ oa s1 s2 k=>by
 obtain⟨a,rfl,ha⟩:=T6 s1
 rw[BF s2]
 exact .inr ⟨a,i,rfl,rfl,ha,k _ H (.d (.bool true)) M oa AJ Step.refl q⟩
end
end DL
namespace L2
open PySem PySem.Spec PyProof.Rows
def uZ:List Nat:=[0,1,2,3,4,5,6,7,8,9,10,11,12,13,14,15,16,17,18,19,20,21,22,23]
theorem jH {x:Str}{i:Nat}:∀(l:List Str) (k n:Nat),(l.zip (List.range' k n)).lookup x=some i->k<=i/\l[i - k]?=some x
 | [],_,_,h=>by cases h
 | _::_,_,0,h=>by cases h
 | a::r,k,n+1,h=>by
   rw[List.range'_succ,a7X,a2J] at h
   split at h
   · rename_i e
     have h:=Option.some.inj h
     subst h
     rw[Nat.sub_self]
     exact⟨zR _,by rw[eq_of_beq e];rfl⟩
   · obtain⟨h1,h2⟩:=jH r (k+1) n h
     refine⟨by omega,?_⟩
     rw[show i - k=(i - (k+1))+1 by omega]
     exact h2
theorem T7 {l:List Str}{x:Str}{i:Nat}(h:(l.zip uZ).lookup x=some i):l[i]?=some x:=(jH l 0 24 h).2
theorem pvx {X:Cx}{i:Nat}{x:Str}{pos:Pos}(h:(X.N.zip uZ).lookup x=some i) (hv:Vis X.env.scope x) (hd:(x==("__debug__":Str))=false:=by decide)
   (hcd:(x==("__classdict__":Str))=false:=by decide):PE X (.Name x pos) (aD i):=cV (T7 h) hv hd hcd
end L2
namespace DL
open PySem PySem.Spec L2
theorem AD {K:Frg}{M:Own}{Q:DS->Own->Prop}{a b:Str}{t:Bool}(h:(zH (.str a)&&zH (.str b)&&(a0Z (.str a) (.str b)==t))=true) (q:Q (.d (.bool t)) M):D2 K (PV K false) (.d (.str a)) (.d (.str b)) M Q:=by
 simp only[a0V,beq_iff_eq] at h
 exact AR h.1.1 h.1.2 (by rw[if_neg nft,h.2];exact q)
end DL
namespace L2
open PySem PySem.Spec
def v0 (scope:Scope) (NC:List Str):Bool:=(NC.all fun x=>(scope.names.lookup x).isSome)&&scope.names.all fun y=>!(y.2==.local||y.2==.free||y.2==.cell)||y.1==a0Q ".0" || NC.contains y.1
theorem GQ {X:Cx}{scope:Scope}{NC:List Str}{fr:List (Option Nat)}{osc:Scope}{ON:List Str}(_:v0 scope NC=true) (h:eY osc ON scope NC fr=true) (e:X.env.scope=osc) (eN:X.N=ON):CSc X scope NC fr:=CSc.of h e eN
end L2
namespace DL
open PySem PySem.Spec L2 XC
def jI (K:Frg):List V->Hp->VK->Prop:=fun xs H Q=>ZS K xs H Q∨∃(C:Addr) (b:Bool),xs=[.non,.ref C]/\a3Q K (.type "NoneType") (.ref C)=some b/\Q (.bl b) H
theorem v6 {X:Cx}{K:Frg}(h:X.K=K):B2 X (.builtin "isinstance") (jI K):=by
 subst h
 intro pins s σ H vs us Q I r h
 rcases h with h | ⟨C,b,rfl,e,q⟩
 · exact cA pins s σ H vs us Q I r h
 · obtain⟨ua,uc,rfl,ra,rc⟩:∃ua uc,us=[ua,uc]/\RelV .non ua/\RelV (.ref C) uc:=by
     cases r with | cons r1 r2=>cases r2 with | cons r3 r4=>cases r4;exact⟨_,_,rfl,r1,r3⟩
   cases (show ua=a1J from ra)
   cases (show uc=a0X C from rc)
   exact a1W PySem.W.kitx_none I.kIn trivial e (fun z=>nomatch z) fun tk=>⟨.bl b,H,I.tok _,rfl,q⟩
section
variable {K:Frg}{M:Own}{Q:DS->Own->Prop}
theorem nG {xs:List DS}(h:DR K (ZS K) xs M Q):DR K (jI K) xs M Q:=fun H vs QQ oa s k=>.inl (h H vs QQ oa s k)
theorem nH {C:Addr}{b:Bool}(e:a3Q K (.type "NoneType") (.ref C)=some b) (q:Q (.d (.bool b)) M):DR K (jI K) [.d .none,.loc C] M Q:=fun H vs QQ oa s kk=>by
 obtain⟨v,r,rfl,h1,v2,r2,rfl,h2,h3⟩:=s
 cases h3
 unfold SI at h2
 subst h2
 unfold SI DV at h1
 subst h1
 exact .inr ⟨C,b,rfl,e,kk _ _ (.d (.bool b)) M oa (by unfold SI DV;rfl) Step.refl q⟩
end
end DL
namespace DL
open PySem PySem.Spec L2 XC
section
variable {K:Frg}{ρ:List (Option DS)}{M:Own}{Q:DS->Own->Prop}
theorem DD {td ty tx:TE}(h:DE K td ρ M fun x M1=>∃(a:Addr) (ts0:List (Str×PyData)),x = .loc a/\M1 a=some (.d (AS ts0))/\DE K ty ρ M1 fun y M2=>∃k,y = .d (.str k)/\DE K tx ρ M2 fun z M3=>∃(dz:PyData) (ts:List (Str×PyData)),z = .d dz/\M3 a=some (.d (AS ts))/\Q (.d ((AU ts k).getD dz)) M3):DE K (X0 td ty tx) ρ M Q:=fun σ H QQ R kk=>
 h σ H _ R fun v H1 x M1 o1 s1 t1 h1=>by
   obtain⟨a,ts0,rfl,m0,h1⟩:=h1
   unfold SI at s1
   subst s1
   obtain⟨ks0,e0,_⟩:=o1 a _ m0
   refine⟨a,rfl,.inl ⟨ks0,.inl e0⟩,h1 σ H1 _ (R.step o1 t1) fun u H2 y M2 o2 s2 t2 h2=>?_⟩
   obtain⟨k,rfl,h2⟩:=h2
   refine h2 σ H2 _ (R.step o2 (t1.trans t2)) fun z H3 zz M3 o3 s3 t3 h3=>?_
   obtain⟨dz,ts,rfl,m,q⟩:=h3
   rw[B7 s2]
   obtain⟨ks,e1,e2⟩:=o3 a _ m
   rcases FQ (k:=k) e2 with ⟨d',w',a1,a2,a3⟩ | ⟨a1,a2⟩
   · rw[a1] at q
     exact⟨some w',.inl ⟨ks,a0K k,.inl e1,rfl,a2.symm⟩,kk _ H3 (.d d') M3 o3 a3 ((t1.trans t2).trans t3) q⟩
   · rw[a1] at q
     exact⟨none,.inl ⟨ks,a0K k,.inl e1,rfl,a2.symm⟩,kk _ H3 (.d dz) M3 o3 s3 ((t1.trans t2).trans t3) q⟩
end
def FY:FSp:=⟨fun xs M=>∃p n o,xs=[.loc p,.d (.int n)]/\M p=some o/\DO o/\0<=n/\n<=26,
 fun xs M y M'=>∀p n,xs=[.loc p,.d (.int n)]->∃(ys:List Str) (o:MO),y = .d (.list (ys.map .str))/\(ys.length:Int)=n/\(∀z∈ys,AM z)/\(∀z∈ys,z∉MX)/\ys.Nodup/\DO o/\M'=M.put p o⟩
theorem T8 {p:Addr}{n:Int}{o:MO}{M:Own}{Q:DS->Own->Prop}(m:M p=some o) (ho:DO o) (h0:0<=n) (h1:n<=26) (q:∀(ys:List Str) o',(ys.length:Int)=n->(∀z∈ys,AM z)->(∀z∈ys,z∉MX)->ys.Nodup->DO o'->Q (.d (.list (ys.map .str))) (M.put p o')) :
   [DS.loc p,.d (.int n)].length=2/\FY.pre [.loc p,.d (.int n)] M/\∀x M',FY.post [.loc p,.d (.int n)] M x M'->Q x M':=
 ⟨rfl,⟨p,n,o,rfl,m,ho,h0,h1⟩,fun x M' h=>by obtain⟨v,o',rfl,h2,h3,h4,h5,h6,rfl⟩:=h p n rfl;exact q v o' h2 h3 h4 h5 h6⟩
structure B31 (w:List Th) (ls:List (Str×Deed)):Prop where
 good:goodB w ls
 fine:E9 w
 book:JA w (dsL ls)
 five:w.length<=5
 few:ls.length<=30
 far:IK∉(D9 w (dsL ls)).map (·.1)
structure J31 (w0:List Th) (ys:List Str) (ls:List (Str×Deed)) (so sp:List Str):Prop where
 sub:(so++sp).Sublist ys
 book:JA w0 (dsL ls)
 perm:((D9 w0 (dsL ls)).map (·.1)).Perm so
 fine:E9 (D9 w0 (dsL ls))
 len:(D9 w0 (dsL ls)).length<=5+ls.length
theorem J31.step {w0:List Th}{ys:List Str}{ls:List (Str×Deed)}{so sp:List Str}{D:Deed}{h:Str}(j:J31 w0 ys ls so sp) (hr:D.real) (ha:B9 so D=none) (hm:∀n,D.made=some n->sp.head?=some n) (hl:ls.length < 50):J31 w0 ys (ls++[(h,D)]) (BE so D) (CA sp D):=by
 have hlen:=j.len
 have hg:goD (D9 w0 (dsL ls)) D:=⟨⟨j.fine.1.nodup,by omega⟩,hr,by rw[OZ j.perm];exact ha⟩
 obtain⟨f1,f2⟩:=LQ j.fine hg (by omega)
 have e:dsL (ls++[(h,D)])=dsL ls++[D]:=by simp[dsL]
 refine⟨(J1 hm).trans j.sub,?_,?_,?_,?_⟩
 · rw[e];exact J0 j.book hg
 · rw[e,FV];exact(P0 hg).trans (VL j.perm D)
 · rw[e,FV];exact f1
 · rw[e,FV,yY];simp;omega
def IL:FSp:=⟨fun xs M=>∃(h:Int) (cs:List Int),xs=[.d (.int h),.d (.list (cs.map .int))]/\xJ h<=2 ^ 21/\(∀c∈cs,xJ c<=2 ^ 21)/\cs.length<=30,fun xs M y M'=>M'=M/\∃(w:List Th) (ls:List (Str×Deed)),y = .d (AL w ls)/\B31 w ls⟩
theorem W3 {M:Own}{Q:DS->Own->Prop}{h:Int}{cs:List Int}(h1:xJ h<=2 ^ 21) (h2:∀c∈cs,xJ c<=2 ^ 21) (h3:cs.length<=30) (q:∀(w:List Th) (ls:List (Str×Deed)),B31 w ls->Q (.d (AL w ls)) M) :
   [DS.d (.int h),.d (.list (cs.map .int))].length=2/\IL.pre [.d (.int h),.d (.list (cs.map .int))] M/\∀x M',IL.post [.d (.int h),.d (.list (cs.map .int))] M x M'->Q x M':=
 ⟨rfl,⟨h,cs,rfl,h1,h2,h3⟩,fun x M' h=>by obtain⟨rfl,w,ls,rfl,hg⟩:=h;exact q w ls hg⟩
def EF:FSp:=⟨fun xs M=>∃(w:List Th) (ls:List (Str×Deed)),xs=[.d (AL w ls)]/\ls.length<=50,fun xs M y M'=>∀(w:List Th) (ls:List (Str×Deed)),xs=[.d (AL w ls)]->y = .d (.tuple ((dsL ls).map Deed.d))/\M'=M⟩
theorem KI {M:Own}{Q:DS->Own->Prop}{w:List Th}{ls:List (Str×Deed)}(hg:ls.length<=50) (q:Q (.d (.tuple ((dsL ls).map Deed.d))) M):[DS.d (AL w ls)].length=1/\EF.pre [.d (AL w ls)] M/\∀x M',EF.post [.d (AL w ls)] M x M'->Q x M':=
 ⟨rfl,⟨w,ls,rfl,hg⟩,fun x M' h=>by obtain⟨rfl,rfl⟩:=h w ls rfl;exact q⟩
structure rowP (w:List Th) (Ds:List Deed):Prop where
 fine:E9 w
 book:JA w Ds
 few:w.length+Ds.length < 60
def K2 (w:List Th) (Ds:List Deed):List DS:=[.d (wD w),.d (.tuple (Ds.map Deed.d))]
theorem ZZ {w w':List Th}{Ds Ds':List Deed}(e:K2 w Ds=K2 w' Ds'):w=w'/\Ds=Ds':=by
 unfold K2 at e
 simp only[List.cons.injEq,DS.d.injEq,PyData.tuple.injEq,and_true] at e
 refine⟨OT e.1,?_⟩
 have:=e.2
 clear e
 induction Ds generalizing Ds' with
 | nil=>cases Ds' with | nil=>rfl | cons _ _=>cases this
 | cons a r ih=>cases Ds' with
   | nil=>cases this
   | cons b s=>
     simp only[zI,List.cons.injEq] at this
     rw[EO this.1,ih this.2]
def IM:FSp:=⟨fun xs M=>∃w Ds,xs=K2 w Ds/\rowP w Ds,fun xs M y M'=>∀w Ds,xs=K2 w Ds->y = .d (.tuple [wD (D9 w Ds),.list (bkL w Ds Ds.length)])/\M'=M⟩
theorem W4 {M:Own}{Q:DS->Own->Prop}{w:List Th}{Ds:List Deed}(h:rowP w Ds) (q:Q (.d (.tuple [wD (D9 w Ds),.list (bkL w Ds Ds.length)])) M):(K2 w Ds).length=2/\IM.pre (K2 w Ds) M/\∀x M',IM.post (K2 w Ds) M x M'->Q x M':=
 ⟨rfl,⟨w,Ds,rfl,h⟩,fun x M' h=>by obtain⟨rfl,rfl⟩:=h w Ds rfl;exact q⟩
def P9:FSp:=⟨fun xs M=>∃w Ds,xs=K2 w Ds/\rowP w Ds,fun xs M y M'=>∀w Ds,xs=K2 w Ds->y = .d (wD (D9 w Ds))/\M'=M⟩
theorem cM {M:Own}{Q:DS->Own->Prop}{w:List Th}{Ds:List Deed}(h:rowP w Ds) (q:Q (.d (wD (D9 w Ds))) M):(K2 w Ds).length=2/\P9.pre (K2 w Ds) M/\∀x M',P9.post (K2 w Ds) M x M'->Q x M':=
 ⟨rfl,⟨w,Ds,rfl,h⟩,fun x M' h=>by obtain⟨rfl,rfl⟩:=h w Ds rfl;exact q⟩
theorem YA {w w':List Th}{ls ls':List (Str×Deed)}(h:AL w ls=AL w' ls'):w=w'/\ls=ls':=by
 refine⟨?_,DC h⟩
 unfold AL at h
 simp only[PyData.tuple.injEq,List.cons.injEq,and_true] at h
 exact OT h.1
def CY:FSp:=⟨fun xs M=>∃(w:List Th) (ls:List (Str×Deed)),xs=[.d (AL w ls)]/\rowP w (dsL ls)/\ls.length<=50,fun xs M y M'=>∀(w:List Th) (ls:List (Str×Deed)),xs=[.d (AL w ls)]->y = .d (wD (D9 w (dsL ls)))/\M'=M⟩
theorem MG {M:Own}{Q:DS->Own->Prop}{w:List Th}{ls:List (Str×Deed)}(h:rowP w (dsL ls)) (hl:ls.length<=50) (q:Q (.d (wD (D9 w (dsL ls)))) M):[DS.d (AL w ls)].length=1/\CY.pre [.d (AL w ls)] M/\∀x M',CY.post [.d (AL w ls)] M x M'->Q x M':=
 ⟨rfl,⟨w,ls,rfl,h,hl⟩,fun x M' h=>by obtain⟨rfl,rfl⟩:=h w ls rfl;exact q⟩
def FZ:FSp:=⟨fun xs M=>∃(w:List Th) (ls:List (Str×Deed)),xs=[.d (wD w),.d (AO ls)]/\rowP w (dsL ls),fun xs M y M'=>∀(w:List Th) (ls:List (Str×Deed)),xs=[.d (wD w),.d (AO ls)]->y = .d (wD (D9 w (dsL ls)))/\M'=M⟩
theorem KJ {M:Own}{Q:DS->Own->Prop}{w:List Th}{ls:List (Str×Deed)}(h:rowP w (dsL ls)) (q:Q (.d (wD (D9 w (dsL ls)))) M):[DS.d (wD w),.d (AO ls)].length=2/\FZ.pre [.d (wD w),.d (AO ls)] M/\∀x M',FZ.post [.d (wD w),.d (AO ls)] M x M'->Q x M':=
 ⟨rfl,⟨w,ls,rfl,h⟩,fun x M' h=>by obtain⟨rfl,rfl⟩:=h w ls rfl;exact q⟩
def GN (cN:Addr):FSpX:=⟨fun xs M=>∃(w:List Th) (ls:List (Str×Deed)) (d:PyData),xs=[.d (AL w ls),.d d]/\goodB w ls,
 fun xs M y M'=>∀(w:List Th) (ls:List (Str×Deed)) (d:PyData),xs=[.d (AL w ls),.d d]->∃k:Nat,d = .int k/\k < ls.length/\y = .d (chD (EA (dsL ls) k))/\M'=M,
 fun xs M cls fs M'=>∀(w:List Th) (ls:List (Str×Deed)) (d:PyData),xs=[.d (AL w ls),.d d]->K1 ls.length d=false/\cls = .ref cN/\fs=[(a0Q "line", d)]/\M'=M⟩
theorem YB {P:Program}{w0:World}{K:Frg}{mg:Str->Option Value}{base:Heap}{x:Str}{k:Nat}{ps:List Str}{cN:Addr}(h:HasX P w0 K mg base x k ps (GN cN)):Has P w0 K mg base x k ps T2:=
 h.calm fun xs M hp=>by
   obtain⟨w,ls,k,rfl,hg,hk⟩:=hp
   refine⟨⟨w,ls,_,rfl,hg⟩,fun y M' hq w' ls' k' e=>?_,fun cls fs M' hx=>?_⟩
   · obtain⟨j,e1,_,e2,e3⟩:=hq w' ls' _ e
     have:k'=j:=by injection e1 with e1;omega
     rw[this]
     exact⟨e2,e3⟩
   · have:=(hx w ls _ rfl).1
     rw[Y3 hk] at this
     cases this
theorem jJ {cN:Addr}{w:List Th}{ls:List (Str×Deed)}{d:PyData}{M:Own}{Q:DS->Own->Prop}{DX:Value->List (Str×PyData)->Own->Prop}(hg:goodB w ls) (q:∀y,K1 ls.length d=true->Q y M) (q2:K1 ls.length d=false->DX (.ref cN) [(a0Q "line", d)] M) :
   [DS.d (AL w ls),.d d].length=2/\(GN cN).pre [.d (AL w ls),.d d] M/\(∀x M',(GN cN).post [.d (AL w ls),.d d] M x M'->Q x M')/\∀cls fs M',(GN cN).xpost [.d (AL w ls),.d d] M cls fs M'->DX cls fs M':=
 ⟨rfl,⟨w,ls,d,rfl,hg⟩,fun x M' h=>(by obtain⟨k,rfl,hk,_,rfl⟩:=h w ls d rfl;exact q x (Y3 hk)),fun cls fs M' h=>by obtain⟨hn,rfl,rfl,rfl⟩:=h w ls d rfl;exact q2 hn⟩
def CN:FSp:=⟨fun xs M=>∃(w:List Th) (ls:List (Str×Deed)) (d:PyData),xs=[.d (AL w ls),.d d]/\goodB w ls/\(zH d=true∨d = .dict []),fun xs M y M'=>∀(w:List Th) (ls:List (Str×Deed)) (d:PyData),xs=[.d (AL w ls),.d d]->y = .d (.bool (!K1 ls.length d))/\M'=M⟩
theorem ER {w:List Th}{ls:List (Str×Deed)}{d:PyData}{M:Own}{Q:DS->Own->Prop}(hg:goodB w ls) (hs:zH d=true∨d = .dict []) (q:Q (.d (.bool (!K1 ls.length d))) M):[DS.d (AL w ls),.d d].length=2/\CN.pre [.d (AL w ls),.d d] M/\∀x M',CN.post [.d (AL w ls),.d d] M x M'->Q x M':=
 ⟨rfl,⟨w,ls,d,rfl,hg,hs⟩,fun x M' h=>by obtain⟨rfl,rfl⟩:=h w ls d rfl;exact q⟩
end DL
namespace DL
open PySem PySem.Spec L2
def oQ:PyData->PyData | .tuple (a::_)=>a | d=>d
theorem wA {ts:List Th}{x:Str}{p c:Int}:(EY ts x p c).length<=ts.length+1:=by
 unfold EY
 split
 · rw[zX];omega
 · rw[yY];simp
end DL
namespace DL
open PySem PySem.Spec L2
theorem RP:∀{Ds:List Deed}{w:List Th}(k:Nat),JA w Ds->JA w (Ds.take k)
 | [],_,k,h=>by rw[List.take_nil];exact h
 | D::r,w,0,_=>trivial
 | D::r,w,k+1,h=>⟨h.1,RP k h.2⟩
theorem PB {w:List Th}{Ds:List Deed}(h:rowP w Ds):E9 (D9 w Ds)/\(D9 w Ds).length<=w.length+Ds.length:=by
 have:=J2 h.book h.fine h.few (zR _)
 rw[show wsF w Ds Ds.length=D9 w Ds by unfold wsF;rw[a3W]] at this
 exact⟨this.1,this.2.1⟩
abbrev W5:Int:=10 ^ Int.toNat 12
abbrev MY:List (Str×Deed):=[(a0Q "me", .put IK 999 W5),(a0Q "me", .count IK W5)]
theorem W6:AM IK:=⟨by decide +kernel,by decide +kernel,by decide +kernel⟩
theorem B31.row {w:List Th}{ls:List (Str×Deed)}(h:B31 w ls) (k:Nat):rowP w (dsL (ls.take k)):=by
 have h1:=h.five
 have h2:=h.few
 refine⟨h.fine,by rw[show dsL (ls.take k)=(dsL ls).take k from b5K ..];exact RP k h.book,?_⟩
 rw[zX,a2V]
 omega
theorem B31.farR {w:List Th}{ls:List (Str×Deed)}(h:B31 w ls):rowP w (dsL (ls++MY)):=by
 have h1:=h.five
 have h2:=h.few
 have r0:rowP w (dsL ls):=by have:=h.row ls.length;rwa [a3W] at this
 obtain⟨f1,f2⟩:=PB r0
 have hdl:(dsL ls).length=ls.length:=zX _
 have nx:∀n∈(Deed.put IK 999 W5).names,AM n:=fun n hn=>by have:n=IK:=(by simpa [Deed.names] using hn);rw[this];exact W6
 have g1:goD (D9 w (dsL ls)) (.put IK 999 W5):=⟨⟨f1.1.nodup,by omega⟩,⟨nx,trivial,by decide,by decide⟩,BW fun n hn=>by
   have:n=IK:=by simpa [Deed.names] using hn
   rw[this]
   exact⟨fun q=>absurd q h.far,fun q=>absurd rfl q⟩⟩
 obtain⟨s1,s2⟩:=LQ f1 g1 (by omega)
 have g2:goD (GZ (D9 w (dsL ls)) (.put IK 999 W5)) (.count IK W5):=⟨⟨s1.1.nodup,by omega⟩,⟨fun n hn=>by have:n=IK:=(by simpa [Deed.names] using hn);rw[this];exact W6,trivial,trivial⟩,BW fun n hn=>by
   have:n=IK:=by simpa [Deed.names] using hn
   rw[this]
   refine⟨fun _=>(fun q=>nomatch q),fun _=>(P0 g1).mem_iff.mpr ?_⟩
   simp[BE]⟩
 refine⟨h.fine,?_,?_⟩
 · rw[show dsL (ls++MY)=(dsL ls++[.put IK 999 W5])++[.count IK W5] by simp[dsL]]
   exact J0 (J0 r0.book g1) (by rw[FV];exact g2)
 · rw[zX,yY]
   simp
   omega
def jK (n:Nat):List PyData:=[.int (0 - 1),.int (n:Int),.int ((n:Int)+1),.bool true,.str (a0Q "0"),.none,.tuple [.int 0],.list [.int 0],.dict [],.int (0 - (n:Int))]
theorem NJ {n:Nat}{i:Int}(h:i < 0∨(n:Int)<=i):K1 n (.int i)=false:=by
 show(decide ((0:Int)<=i)&&decide (i<=(n:Int) - 1))=false
 rcases h with h | h
 · rw[decide_eq_false (by omega),Bool.false_and]
 · rw[show decide (i<=(n:Int) - 1)=false from decide_eq_false (by omega),Bool.and_false]
theorem jL {n:Nat}{d:PyData}(h:d∈jK n):d = .int 0∨(K1 n d=false/\(zH d=true∨d = .dict [])):=by
 simp only[jK,yX,xX,or_false] at h
 rcases h with rfl | rfl | rfl | rfl | rfl | rfl | rfl | rfl | rfl | rfl
 · exact .inr ⟨NJ (.inl (by decide)),.inl rfl⟩
 · exact .inr ⟨NJ (.inr (Int.le_refl _)),.inl rfl⟩
 · exact .inr ⟨NJ (.inr (by omega)),.inl rfl⟩
 · exact .inr ⟨rfl,.inl rfl⟩
 · exact .inr ⟨rfl,.inl (by decide +kernel)⟩
 · exact .inr ⟨rfl,.inl rfl⟩
 · exact .inr ⟨rfl,.inl rfl⟩
 · exact .inr ⟨rfl,.inl rfl⟩
 · exact .inr ⟨rfl,.inr rfl⟩
 · by_cases h0:n=0
   · subst h0;exact .inl rfl
   · exact .inr ⟨NJ (.inl (by omega)),.inl rfl⟩
end DL
namespace DL
open PySem PySem.Spec L2
def FnIn (K:Frg) (n:Str) (st:Stmt):Prop:=∃(f:Addr) (oc:Value) (od:Option Addr) (kV dc pm:Value) (an:Option Addr) (cd ct:Value) (sl:Array (Option Value)),a1Q K mainGlobals n=some (some (.ref f)) /\
 K.lookup f=some ⟨oc,od,.func (a6Q n n (DF st) (BJ st) (AC st) .none kV dc pm an cd ct),sl⟩/\b4Q K cd n=true/\a3J K (.ref f)=true
theorem nI {K:Frg}{n:Str}{st:Stmt}{f:Addr}{oc:Value}{od:Option Addr}{kV dc pm:Value}{an:Option Addr}{cd ct:Value}{sl:Array (Option Value)}(a:a1Q K mainGlobals n=some (some (.ref f)))
   (l:K.lookup f=some ⟨oc,od,.func (a6Q n n (DF st) (BJ st) (AC st) .none kV dc pm an cd ct),sl⟩) (c:b4Q K cd n=true) (k:a3J K (.ref f)=true):FnIn K n st:=⟨f,oc,od,kV,dc,pm,an,cd,ct,sl,a,l,c,k⟩
structure FnAt (K:Frg) (mg:Str->Option Value) (n:Str) (st:Stmt) (f:Addr) (fd:FuncData):Prop where
 fn:Fun K n n st f fd
 mg_:mg n=some (.ref f)
 kp:a3J K (.ref f)=true
theorem FnIn.at {K:Frg}{n:Str}{st:Stmt}{h:Heap}{mg:Str->Option Value}(b:FnIn K n st) (X:K.In h) (G:h.Ns mainGlobals mg):∃f fd,FnAt K mg n st f fd:=
 let ⟨f,_,_,_,_,_,_,_,_,_,a,l,c,k⟩:=b
 ⟨f,_,dX l c k,b0Q X G a,k⟩
section
variable {P:Program}{w:World}{K:Frg}{mg:Str->Option Value}{base:Heap}{n:Str}{st:Stmt}{f:Addr}{fd:FuncData}{k:Nat}{ps:List Str}
abbrev jM (n:Str) (st:Stmt) (ps:List Str):Prop:=∀(kV doc pm:Value) (an:Option Addr) (cdv ct:Value) (us:List Value),us.length=ps.length->bindArgs (a6Q n n (DF st) (BJ st) (AC st) .none kV doc pm an cdv ct) ⟨us,[]⟩=pure (ps.zip us)
theorem FnAt.has {S:FSp}(a:FnAt K mg n st f fd) (h:FnOk P w K mg base CX0 k f fd ps (spD K ps.length S)) (b:jM n st ps):Has P w K mg base n k ps S:=⟨f,fd,h,a.mg_,a.kp,a.fn.binds b⟩
theorem FnAt.hasX {S:FSpX}(a:FnAt K mg n st f fd) (h:FnOk P w K mg base (XC.CXE P w) k f fd ps (spX K ps.length S)) (b:jM n st ps):HasX P w K mg base n k ps S:=⟨f,fd,h,a.mg_,a.kp,a.fn.binds b⟩
end
end DL
namespace DL
open PySem PySem.Spec L2 XC
abbrev GR:Stmt:=_root_.sT 4
abbrev F7:Stmt:=_root_.sT 6
abbrev GS:Stmt:=_root_.sT 7
abbrev G0:Stmt:=_root_.sT 5
abbrev J5:Stmt:=_root_.sT 10
abbrev T9:Stmt:=_root_.sT 12
abbrev GT:Stmt:=_root_.sT 13
abbrev G1:Stmt:=_root_.sT 11
abbrev J6:Stmt:=_root_.sT 14
abbrev CZ:Stmt:=_root_.sT 15
abbrev ES:Stmt:=_root_.sT 23
abbrev BD:Stmt:=_root_.sT 24
abbrev F8:Stmt:=_root_.sT 30
abbrev BR:Stmt:=_root_.sT 28
abbrev KK:Stmt:=_root_.sT 29
abbrev TB:Stmt:=_root_.sT 26
abbrev F9:Stmt:=_root_.sT 27
abbrev KL:Stmt:=_root_.sT 33
abbrev TC:Stmt:=_root_.sT 32
abbrev G2:Stmt:=_root_.sT 35
abbrev ET:Stmt:=_root_.sT 36
abbrev ED:Stmt:=_root_.sT 37
abbrev FA:Stmt:=_root_.sT 38
abbrev BQ:Stmt:=P5 0 (_root_.sT 21)
abbrev KM:Stmt:=_root_.sT 39
abbrev EE:Stmt:=_root_.sT 41
abbrev FC:Stmt:=_root_.sT 42
abbrev C0:Stmt:=_root_.sT 43
abbrev E1:Stmt:=_root_.sT 44
abbrev C6:Stmt:=_root_.sT 45
abbrev D0:Stmt:=_root_.sT 46
abbrev FD:Stmt:=_root_.sT 47
abbrev FE:Stmt:=_root_.sT 48
abbrev FF:Stmt:=_root_.sT 49
abbrev CD:Stmt:=_root_.sT 51
abbrev C7:Stmt:=_root_.sT 50
abbrev D3:Stmt:=_root_.sT 52
abbrev W7:Stmt:=_root_.sT 53
abbrev vS (x:String) (t:Tok):Value:=.str (a0Q x) t
abbrev eS (P:Params) (x:String) (t:Tok) (v:Value):DictEntry:=⟨a8W P (a0Q x),.str (a0Q x) t,v⟩
abbrev hs (i:Nat):Stmt:=PySem.Challenge.pw_struckdeeds_k31_worlds_and_needs_of_book.main.body.getD i (.Pass ⟨0,0,0,0⟩)
abbrev fO (n q:String) (st:Stmt) (doc pm:Value) (c:Nat):Obj:=⟨.type "function", none,.func (a6Q (a0Q n) (a0Q q) (DF st) (BJ st) (AC st) .none .none doc pm none (.ref c) .none),#[]⟩
abbrev gO (n q:String) (st:Stmt):Obj:=⟨.none,none,.func (.mk (a0Q n) (a0Q q) (DF st) (.stmts (BJ st)) (AC st) 0 [] .none .none .none .none none .none .none 0),#[]⟩
abbrev tO (vs:Array Value):Obj:=⟨.type "tuple", none,.seq vs 0,#[]⟩
abbrev kO (n q:String) (a b c:Tok) (l k f:Nat) (x1:Value) (t:Nat) (x2 x3 x4 x5:Value) (u l2:Nat) (d:Tok):Obj:=⟨.type "code", none,.fields #[vS n a,vS q b,vS "/claim/cut.py" c,.int l 0,.int k 0,.int 0 0,.int 0 0,.int f 0,x1,.bool true,.int t 0,x2,.none,x3,x4,x5,.int u 0,.int l2 0,vS "/claim/cut.py" d],#[]⟩
abbrev fP (n:String) (st:Stmt) (doc pm:Value) (c:Nat):Obj:=fO n n st doc pm c
abbrev gP (n:String) (st:Stmt):Obj:=gO n n st
abbrev kP (n:String) (a b c:Tok) (l k f:Nat) (x1:Value) (t:Nat) (x2 x3 x4 x5:Value) (u l2:Nat) (d:Tok):Obj:=kO n n a b c l k f x1 t x2 x3 x4 x5 u l2 d
abbrev nF (vs:Array Value):Obj:=⟨.none,none,.fields vs,#[]⟩
abbrev lF (l:List (Nat×Nat×Nat)):Obj:=nF (l.flatMap fun t=>[.int t.1 0,.int t.2.1 0,.ref t.2.2]).toArray
def hV:Program:={ PySem.Challenge.pw_struckdeeds_k31_worlds_and_needs_of_book with main:={ PySem.Challenge.pw_struckdeeds_k31_worlds_and_needs_of_book.main with body:=([1,2,3,4,5,6,7,9,10,11,12,13,14,15,17,18,19,20,21,23,24,26,27,28,29,30,32,33,35,36,37,38,39,41,42,43,44,45,46,47,48,49,50,51,52,53]:List Nat).map hs } }
abbrev hB:List Stmt:=PySem.W.behindTheImports PySem.Challenge.pw_struckdeeds_k31_worlds_and_needs_of_book
def hN:Env:={ scope:=PySem.Challenge.pw_struckdeeds_k31_worlds_and_needs_of_book.main.scope,locals:=mainNs,globals:=mainNs,cells:=[],code:=a0X 13,frame:=some 14 }
abbrev hC:Code:=.body hB hN
abbrev hF:List Frame:=[PySem.W.topFrame { line:=0,col:=0,endLine:=0,endCol:=0 }]
abbrev hI (t:PySem.W.BT) (l:List (Nat×Obj)):PySem.W.BT:=l.foldl (fun t x=>t.ins x.1 x.2) t
noncomputable def hT0:Params->PySem.W.BT:=fun P=>hI .nil [(0,PySem.W.boot_o_0 P),(1,PySem.W.boot_o_1 P),(2,PySem.W.boot_o_2 P),(3,PySem.W.boot_o_3 P),(4,PySem.W.boot_o_4 P),(5,PySem.W.boot_o_5 P),(6,PySem.W.boot_o_6 P),(7,PySem.W.boot_o_7 P),(8,PySem.W.boot_o_8 P),(9,PySem.W.boot_o_9 P),(10,PySem.W.boot_o_10 P)]
noncomputable def hT1:Params->PySem.W.BT:=fun P=>hI (hT0 P) (
 (11,tO #[]) ::
 (12,nF #[]) ::
 (13,(⟨(.type "code"),none,(.fields #[(vS "<module>" 182),(vS "<module>" 183),(vS "/claim/cut.py" 184),(.int 1 0),(.int 0 0),(.int 0 0),(.int 0 0),(.int 0 0),(.ref 11),(.bool false),(.int 181 0),(.ref 12),.none,.none,.none,.none,(.int 185 0),(.int 1 0),(vS "/claim/cut.py" 186)]),#[]⟩:Obj)) ::
 (14,(⟨(.type "frame"),none,.plain,#[(some (.ref 13)),(some (.ref 3)),(some (.ref 3)),none,(some (vS "__main__" 164)),none,(some (.ref 0))]⟩:Obj))::[])
noncomputable abbrev hX1 (w:World) (os:OsState):PySem.W.SharedT:=⟨hT1 w.params,15,{ },⟨[]⟩,{ },187,os⟩
noncomputable abbrev hX2 (w:World) (os:OsState):PySem.W.SharedT:=⟨hT1 w.params,15,{ },⟨[]⟩,{ },187,os⟩
def hD3:Params->List DictEntry:=fun P=>[eS P "__name__" 165 (vS "struckdeeds.errors" 289),eS P "__doc__" 166 .none,eS P "__package__" 167 .none,eS P "__loader__" 168 (.builtin "__main__.__loader__#opaque"),eS P "__spec__" 169 .none,eS P "__annotations__" 170 (.ref 6),eS P "__builtins__" 171 (.ref 4),eS P "__file__" 173 (vS "/claim/cut.py" 172),eS P "__cached__" 174 .none,eS P "LETTERS" 190 (vS "abcdefghijklmnopqrstuvwxyz" 189),eS P "LONGEST_NAME" 192 (.int 8 191),eS P "LAST_PLACE" 194 (.int 999 193),eS P "is_whole" 201 (.ref 21),eS P "is_name" 207 (.ref 26),eS P "is_within" 216 (.ref 33),eS P "is_place" 223 (.ref 40),eS P "FORMS" 247 (.ref 41),eS P "form_of" 254 (.ref 48),eS P "is_deed" 260 (.ref 53),eS P "fits" 268 (.ref 60),eS P "names_in" 275 (.ref 67),eS P "made_by" 282 (.ref 74),eS P "must_stand" 288 (.ref 79),eS P "StrikeError" 308 (.ref 89)]
noncomputable def hT3:Params->PySem.W.BT:=fun P=>hI (hT1 P) (
 (3,(⟨.type "dict", none,.dict (hD3 P).toArray 24,#[]⟩:Obj)) ::
 (12,lF [(5,0,20),(7,0,25),(11,0,32),(13,0,39),(17,0,47),(19,0,52),(29,0,59),(35,0,66),(37,0,73),(43,0,78),(47,0,85)]) ::
 (15,tO #[]) ::
 (16,nF #[]) ::
 (17,tO #[(vS "thing" 198)]) ::
 (18,tO #[]) ::
 (19,gP "is_whole" (hs 4)) ::
 (20,kP "is_whole" 195 196 197 5 1 3 (.ref 15) 181 (.ref 16) (.ref 17) (.ref 18) (.ref 19) 199 5 200) ::
 (21,fP "is_whole" (hs 4) .none (vS "struckdeeds.words" 187) 20) ::
 (22,tO #[]) ::
 (23,nF #[]) ::
 (24,gP "is_name" (hs 5)) ::
 (25,kP "is_name" 202 203 204 7 1 3 (.ref 22) 181 (.ref 23) .none .none (.ref 24) 205 7 206) ::
 (26,fP "is_name" (hs 5) .none (vS "struckdeeds.words" 187) 25) ::
 (27,tO #[]) ::
 (28,nF #[]) ::
 (29,tO #[(vS "thing" 211),(vS "low" 212),(vS "high" 213)]) ::
 (30,tO #[]) ::
 (31,gP "is_within" (hs 6)) ::
 (32,kP "is_within" 208 209 210 11 3 3 (.ref 27) 181 (.ref 28) (.ref 29) (.ref 30) (.ref 31) 214 11 215) ::
 (33,fP "is_within" (hs 6) .none (vS "struckdeeds.words" 187) 32) ::
 (34,tO #[]) ::
 (35,nF #[]) ::
 (36,tO #[(vS "thing" 220)]) ::
 (37,tO #[]) ::
 (38,gP "is_place" (hs 7)) ::
 (39,kP "is_place" 217 218 219 13 1 3 (.ref 34) 181 (.ref 35) (.ref 36) (.ref 37) (.ref 38) 221 13 222) ::
 (40,fP "is_place" (hs 7) .none (vS "struckdeeds.words" 187) 39) ::
 (41,(⟨(.type "dict"),none,(.dict #[eS P "put" 226 (vS "npk" 227),eS P "take" 228 (vS "n" 229),eS P "move" 230 (vS "np" 231),eS P "count" 232 (vS "nk" 233),eS P "name" 234 (vS "nn" 235),eS P "split" 236 (vS "nnpk" 237),eS P "join" 238 (vS "nn" 239)] 7),#[]⟩:Obj)) ::
 (42,tO #[]) ::
 (43,nF #[]) ::
 (44,tO #[(vS "word" 251)]) ::
 (45,tO #[]) ::
 (46,gP "form_of" (hs 10)) ::
 (47,kP "form_of" 248 249 250 17 1 3 (.ref 42) 181 (.ref 43) (.ref 44) (.ref 45) (.ref 46) 252 17 253) ::
 (48,fP "form_of" (hs 10) .none (vS "struckdeeds.deeds" 224) 47) ::
 (49,tO #[]) ::
 (50,nF #[]) ::
 (51,gP "is_deed" (hs 11)) ::
 (52,kP "is_deed" 255 256 257 19 1 3 (.ref 49) 181 (.ref 50) .none .none (.ref 51) 258 19 259) ::
 (53,fP "is_deed" (hs 11) .none (vS "struckdeeds.deeds" 224) 52) ::
 (54,tO #[]) ::
 (55,nF #[]) ::
 (56,tO #[(vS "sign" 264),(vS "part" 265)]) ::
 (57,tO #[]) ::
 (58,gP "fits" (hs 12)) ::
 (59,kP "fits" 261 262 263 29 2 3 (.ref 54) 181 (.ref 55) (.ref 56) (.ref 57) (.ref 58) 266 29 267) ::
 (60,fP "fits" (hs 12) .none (vS "struckdeeds.deeds" 224) 59) ::
 (61,tO #[]) ::
 (62,nF #[]) ::
 (63,tO #[(vS "deed" 272)]) ::
 (64,tO #[]) ::
 (65,gP "names_in" (hs 13)) ::
 (66,kP "names_in" 269 270 271 35 1 3 (.ref 61) 181 (.ref 62) (.ref 63) (.ref 64) (.ref 65) 273 35 274) ::
 (67,fP "names_in" (hs 13) .none (vS "struckdeeds.deeds" 224) 66) ::
 (68,tO #[]) ::
 (69,nF #[]) ::
 (70,tO #[(vS "deed" 279)]) ::
 (71,tO #[]) ::
 (72,gP "made_by" (hs 14)) ::
 (73,kP "made_by" 276 277 278 37 1 3 (.ref 68) 181 (.ref 69) (.ref 70) (.ref 71) (.ref 72) 280 37 281) ::
 (74,fP "made_by" (hs 14) .none (vS "struckdeeds.deeds" 224) 73) ::
 (75,tO #[]) ::
 (76,nF #[]) ::
 (77,gP "must_stand" (hs 15)) ::
 (78,kP "must_stand" 283 284 285 43 1 3 (.ref 75) 181 (.ref 76) .none .none (.ref 77) 286 43 287) ::
 (79,fP "must_stand" (hs 15) .none (vS "struckdeeds.deeds" 224) 78) ::
 (80,tO #[(.type "ValueError")]) ::
 (81,(⟨(.type "builtin_function_or_method"),none,(.fields #[(.builtin "type.__prepare__"),(.type "type")]),#[]⟩:Obj)) ::
 (82,(⟨(.type "dict"),none,(.dict #[eS P "__module__" 298 (vS "struckdeeds.errors" 289),eS P "__qualname__" 300 (vS "StrikeError" 299),eS P "__firstlineno__" 302 (.int 47 301),eS P "__static_attributes__" 303 (.ref 87)] 4),#[]⟩:Obj)) ::
 (83,tO #[]) ::
 (84,nF #[]) ::
 (85,(⟨(.type "code"),none,(.fields #[(vS "StrikeError" 293),(vS "StrikeError" 294),(vS "/claim/cut.py" 295),(.int 47 0),(.int 0 0),(.int 0 0),(.int 0 0),(.int 0 0),(.ref 83),(.bool false),(.int 181 0),(.ref 84),.none,.none,.none,.none,(.int 296 0),(.int 47 0),(vS "/claim/cut.py" 297)]),#[]⟩:Obj)) ::
 (86,(⟨(.type "frame"),none,.plain,#[(some (.ref 85)),(some (.ref 3)),(some (.ref 82)),none,(some (vS "struckdeeds.errors" 289)),none,(some (.ref 0))]⟩:Obj)) ::
 (87,tO #[]) ::
 (88,(⟨(.type "dict"),none,(.dict #[eS P "__module__" 298 (vS "struckdeeds.errors" 289),eS P "__firstlineno__" 302 (.int 47 301),eS P "__static_attributes__" 303 (.ref 87),eS P "__weakref__" 305 (.ref 90),eS P "__doc__" 306 .none] 3),#[]⟩:Obj)) ::
 (89,(⟨(.type "type"),none,(.cls (.mk "StrikeError" [(.type "ValueError")] [(.ref 89),(.type "ValueError"),(.type "Exception"),(.type "BaseException"),(.type "object")] 88 "StrikeError" true [] [] false none false)),#[(some (.ref 80)),none,(some (vS "StrikeError" 291)),(some (vS "StrikeError" 299)),(some (.builtin "ValueError.__new__")),(some (.bool true))]⟩:Obj)) ::
 (90,(⟨(.type "getset_descriptor"),none,(.fields #[(vS "__weakref__" 304),(.ref 89),(.builtin "ExceptionGroup.__weakref__"),.none]),#[]⟩:Obj)) ::
 (91,(⟨(.type "super"),none,(.fields #[(.ref 89),(.ref 89),(.ref 89)]),#[]⟩:Obj)) ::
 (92,(⟨(.type "builtin_function_or_method"),none,(.fields #[(.builtin "object.__init_subclass__"),(.ref 89)]),#[]⟩:Obj))::[])
noncomputable abbrev hX3 (w:World) (os:OsState):PySem.W.SharedT:=⟨hT3 w.params,93,{ },⟨[]⟩,{ },309,os⟩
def hD4:Params->List DictEntry:=fun P=>hD3 P++[eS P "NoDeed" 324 (.ref 102),eS P "NotNow" 349 (.ref 121),eS P "NoRow" 374 (.ref 140)]
noncomputable def hT4:Params->PySem.W.BT:=fun P=>hI (hT3 P) (
 (3,(⟨.type "dict", none,.dict (hD4 P).toArray 27,#[]⟩:Obj)) ::
 (12,lF [(5,0,20),(7,0,25),(11,0,32),(13,0,39),(17,0,47),(19,0,52),(29,0,59),(35,0,66),(37,0,73),(43,0,78),(47,0,85),(49,0,98),(51,0,110),(55,0,129)]) ::
 (89,(⟨(.type "type"),none,(.cls (.mk "StrikeError" [(.type "ValueError")] [(.ref 89),(.type "ValueError"),(.type "Exception"),(.type "BaseException"),(.type "object")] 88 "StrikeError" true [] [(.ref 102),(.ref 121),(.ref 140)] false none false)),#[(some (.ref 80)),none,(some (vS "StrikeError" 291)),(some (vS "StrikeError" 299)),(some (.builtin "ValueError.__new__")),(some (.bool true))]⟩:Obj)) ::
 (93,tO #[(.ref 89)]) ::
 (94,(⟨(.type "builtin_function_or_method"),none,(.fields #[(.builtin "type.__prepare__"),(.type "type")]),#[]⟩:Obj)) ::
 (95,(⟨(.type "dict"),none,(.dict #[eS P "__module__" 316 (vS "struckdeeds.errors" 289),eS P "__qualname__" 318 (vS "NoDeed" 317),eS P "__firstlineno__" 320 (.int 49 319),eS P "__static_attributes__" 321 (.ref 100)] 4),#[]⟩:Obj)) ::
 (96,tO #[]) ::
 (97,nF #[]) ::
 (98,(⟨(.type "code"),none,(.fields #[(vS "NoDeed" 311),(vS "NoDeed" 312),(vS "/claim/cut.py" 313),(.int 49 0),(.int 0 0),(.int 0 0),(.int 0 0),(.int 0 0),(.ref 96),(.bool false),(.int 181 0),(.ref 97),.none,.none,.none,.none,(.int 314 0),(.int 49 0),(vS "/claim/cut.py" 315)]),#[]⟩:Obj)) ::
 (99,(⟨(.type "frame"),none,.plain,#[(some (.ref 98)),(some (.ref 3)),(some (.ref 95)),none,(some (vS "struckdeeds.errors" 289)),none,(some (.ref 0))]⟩:Obj)) ::
 (100,tO #[]) ::
 (101,(⟨(.type "dict"),none,(.dict #[eS P "__module__" 316 (vS "struckdeeds.errors" 289),eS P "__firstlineno__" 320 (.int 49 319),eS P "__static_attributes__" 321 (.ref 100),eS P "__doc__" 322 .none] 2),#[]⟩:Obj)) ::
 (102,(⟨(.type "type"),none,(.cls (.mk "NoDeed" [(.ref 89)] [(.ref 102),(.ref 89),(.type "ValueError"),(.type "Exception"),(.type "BaseException"),(.type "object")] 101 "NoDeed" true [] [] false none false)),#[(some (.ref 93)),none,(some (vS "NoDeed" 309)),(some (vS "NoDeed" 317)),(some (.builtin "ValueError.__new__")),(some (.bool true))]⟩:Obj)) ::
 (103,(⟨(.type "super"),none,(.fields #[(.ref 102),(.ref 102),(.ref 102)]),#[]⟩:Obj)) ::
 (104,(⟨(.type "builtin_function_or_method"),none,(.fields #[(.builtin "object.__init_subclass__"),(.ref 102)]),#[]⟩:Obj)) ::
 (105,tO #[(.ref 89)]) ::
 (106,(⟨(.type "builtin_function_or_method"),none,(.fields #[(.builtin "type.__prepare__"),(.type "type")]),#[]⟩:Obj)) ::
 (107,(⟨(.type "dict"),none,(.dict #[eS P "__module__" 332 (vS "struckdeeds.errors" 289),eS P "__qualname__" 334 (vS "NotNow" 333),eS P "__firstlineno__" 336 (.int 51 335),eS P "__init__" 344 (.ref 118),eS P "__static_attributes__" 346 (.ref 119)] 5),#[]⟩:Obj)) ::
 (108,tO #[]) ::
 (109,lF [(53,4,117)]) ::
 (110,(⟨(.type "code"),none,(.fields #[(vS "NotNow" 327),(vS "NotNow" 328),(vS "/claim/cut.py" 329),(.int 51 0),(.int 0 0),(.int 0 0),(.int 0 0),(.int 0 0),(.ref 108),(.bool false),(.int 181 0),(.ref 109),.none,.none,.none,.none,(.int 330 0),(.int 51 0),(vS "/claim/cut.py" 331)]),#[]⟩:Obj)) ::
 (111,(⟨(.type "frame"),none,.plain,#[(some (.ref 110)),(some (.ref 3)),(some (.ref 107)),none,(some (vS "struckdeeds.errors" 289)),none,(some (.ref 0))]⟩:Obj)) ::
 (112,tO #[]) ::
 (113,nF #[]) ::
 (114,tO #[(vS "self" 340),(vS "name" 341)]) ::
 (115,tO #[]) ::
 (116,gO "__init__" "NotNow.__init__" (P5 0 (hs 19))) ::
 (117,kO "__init__" "NotNow.__init__" 337 338 339 53 2 3 (.ref 112) 181 (.ref 113) (.ref 114) (.ref 115) (.ref 116) 342 53 343) ::
 (118,fO "__init__" "NotNow.__init__" (P5 0 (hs 19)) .none (vS "struckdeeds.errors" 289) 117) ::
 (119,tO #[(vS "name" 345)]) ::
 (120,(⟨(.type "dict"),none,(.dict #[eS P "__module__" 332 (vS "struckdeeds.errors" 289),eS P "__firstlineno__" 336 (.int 51 335),eS P "__init__" 344 (.ref 118),eS P "__static_attributes__" 346 (.ref 119),eS P "__doc__" 347 .none] 2),#[]⟩:Obj)) ::
 (121,(⟨(.type "type"),none,(.cls (.mk "NotNow" [(.ref 89)] [(.ref 121),(.ref 89),(.type "ValueError"),(.type "Exception"),(.type "BaseException"),(.type "object")] 120 "NotNow" true [] [] false none false)),#[(some (.ref 105)),none,(some (vS "NotNow" 325)),(some (vS "NotNow" 333)),(some (.builtin "ValueError.__new__")),(some (.bool true))]⟩:Obj)) ::
 (122,(⟨(.type "super"),none,(.fields #[(.ref 121),(.ref 121),(.ref 121)]),#[]⟩:Obj)) ::
 (123,(⟨(.type "builtin_function_or_method"),none,(.fields #[(.builtin "object.__init_subclass__"),(.ref 121)]),#[]⟩:Obj)) ::
 (124,tO #[(.ref 89)]) ::
 (125,(⟨(.type "builtin_function_or_method"),none,(.fields #[(.builtin "type.__prepare__"),(.type "type")]),#[]⟩:Obj)) ::
 (126,(⟨(.type "dict"),none,(.dict #[eS P "__module__" 357 (vS "struckdeeds.errors" 289),eS P "__qualname__" 359 (vS "NoRow" 358),eS P "__firstlineno__" 361 (.int 55 360),eS P "__init__" 369 (.ref 137),eS P "__static_attributes__" 371 (.ref 138)] 5),#[]⟩:Obj)) ::
 (127,tO #[]) ::
 (128,lF [(57,4,136)]) ::
 (129,(⟨(.type "code"),none,(.fields #[(vS "NoRow" 352),(vS "NoRow" 353),(vS "/claim/cut.py" 354),(.int 55 0),(.int 0 0),(.int 0 0),(.int 0 0),(.int 0 0),(.ref 127),(.bool false),(.int 181 0),(.ref 128),.none,.none,.none,.none,(.int 355 0),(.int 55 0),(vS "/claim/cut.py" 356)]),#[]⟩:Obj)) ::
 (130,(⟨(.type "frame"),none,.plain,#[(some (.ref 129)),(some (.ref 3)),(some (.ref 126)),none,(some (vS "struckdeeds.errors" 289)),none,(some (.ref 0))]⟩:Obj)) ::
 (131,tO #[]) ::
 (132,nF #[]) ::
 (133,tO #[(vS "self" 365),(vS "number" 366)]) ::
 (134,tO #[]) ::
 (135,gO "__init__" "NoRow.__init__" (P5 0 (hs 20))) ::
 (136,kO "__init__" "NoRow.__init__" 362 363 364 57 2 3 (.ref 131) 181 (.ref 132) (.ref 133) (.ref 134) (.ref 135) 367 57 368) ::
 (137,fO "__init__" "NoRow.__init__" (P5 0 (hs 20)) .none (vS "struckdeeds.errors" 289) 136) ::
 (138,tO #[(vS "number" 370)]) ::
 (139,(⟨(.type "dict"),none,(.dict #[eS P "__module__" 357 (vS "struckdeeds.errors" 289),eS P "__firstlineno__" 361 (.int 55 360),eS P "__init__" 369 (.ref 137),eS P "__static_attributes__" 371 (.ref 138),eS P "__doc__" 372 .none] 2),#[]⟩:Obj)) ::
 (140,(⟨(.type "type"),none,(.cls (.mk "NoRow" [(.ref 89)] [(.ref 140),(.ref 89),(.type "ValueError"),(.type "Exception"),(.type "BaseException"),(.type "object")] 139 "NoRow" true [] [] false none false)),#[(some (.ref 124)),none,(some (vS "NoRow" 350)),(some (vS "NoRow" 358)),(some (.builtin "ValueError.__new__")),(some (.bool true))]⟩:Obj)) ::
 (141,(⟨(.type "super"),none,(.fields #[(.ref 140),(.ref 140),(.ref 140)]),#[]⟩:Obj)) ::
 (142,(⟨(.type "builtin_function_or_method"),none,(.fields #[(.builtin "object.__init_subclass__"),(.ref 140)]),#[]⟩:Obj))::[])
noncomputable abbrev hX4 (w:World) (os:OsState):PySem.W.SharedT:=⟨hT4 w.params,143,{ },⟨[]⟩,{ },375,os⟩
def hD5:Params->List DictEntry:=fun P=>(hD4 P).set 0 (eS P "__name__" 165 (vS "law_struckdeeds_k31_worlds_and_needs_of_book" 524))++[eS P "NoLine" 399 (.ref 159),eS P "by_names" 407 (.ref 166),eS P "rising_by_names" 413 (.ref 171),eS P "done" 424 (.ref 178),eS P "back_deed" 435 (.ref 185),eS P "refuse_undoable" 445 (.ref 192),eS P "change" 455 (.ref 199),eS P "add_count" 466 (.ref 206),eS P "gone" 476 (.ref 213),eS P "walked" 488 (.ref 220),eS P "makers" 496 (.ref 225),eS P "deeds_of" 502 (.ref 230),eS P "book_world" 509 (.ref 237),eS P "is_number" 517 (.ref 244),eS P "needs" 523 (.ref 249),eS P "_law_mixed" 532 (.ref 256)]
noncomputable def hT5:Params->PySem.W.BT:=fun P=>hI (hT4 P) (
 (3,(⟨.type "dict", none,.dict (hD5 P).toArray 43,#[]⟩:Obj)) ::
 (12,lF [(5,0,20),(7,0,25),(11,0,32),(13,0,39),(17,0,47),(19,0,52),(29,0,59),(35,0,66),(37,0,73),(43,0,78),(47,0,85),(49,0,98),(51,0,110),(55,0,129),(59,0,148),(64,0,165),(66,0,170),(69,0,177),(74,0,184),(91,0,191),(98,0,198),(116,0,205),(120,0,212),(122,0,219),(133,0,224),(136,0,229),(138,0,236),(140,0,243),(142,0,248),(148,0,255)]) ::
 (89,(⟨(.type "type"),none,(.cls (.mk "StrikeError" [(.type "ValueError")] [(.ref 89),(.type "ValueError"),(.type "Exception"),(.type "BaseException"),(.type "object")] 88 "StrikeError" true [] [(.ref 102),(.ref 121),(.ref 140),(.ref 159)] false none false)),#[(some (.ref 80)),none,(some (vS "StrikeError" 291)),(some (vS "StrikeError" 299)),(some (.builtin "ValueError.__new__")),(some (.bool true))]⟩:Obj)) ::
 (143,tO #[(.ref 89)]) ::
 (144,(⟨(.type "builtin_function_or_method"),none,(.fields #[(.builtin "type.__prepare__"),(.type "type")]),#[]⟩:Obj)) ::
 (145,(⟨(.type "dict"),none,(.dict #[eS P "__module__" 382 (vS "struckdeeds.errors" 289),eS P "__qualname__" 384 (vS "NoLine" 383),eS P "__firstlineno__" 386 (.int 59 385),eS P "__init__" 394 (.ref 156),eS P "__static_attributes__" 396 (.ref 157)] 5),#[]⟩:Obj)) ::
 (146,tO #[]) ::
 (147,lF [(61,4,155)]) ::
 (148,(⟨(.type "code"),none,(.fields #[(vS "NoLine" 377),(vS "NoLine" 378),(vS "/claim/cut.py" 379),(.int 59 0),(.int 0 0),(.int 0 0),(.int 0 0),(.int 0 0),(.ref 146),(.bool false),(.int 181 0),(.ref 147),.none,.none,.none,.none,(.int 380 0),(.int 59 0),(vS "/claim/cut.py" 381)]),#[]⟩:Obj)) ::
 (149,(⟨(.type "frame"),none,.plain,#[(some (.ref 148)),(some (.ref 3)),(some (.ref 145)),none,(some (vS "struckdeeds.errors" 289)),none,(some (.ref 0))]⟩:Obj)) ::
 (150,tO #[]) ::
 (151,nF #[]) ::
 (152,tO #[(vS "self" 390),(vS "line" 391)]) ::
 (153,tO #[]) ::
 (154,gO "__init__" "NoLine.__init__" (P5 0 (hs 21))) ::
 (155,kO "__init__" "NoLine.__init__" 387 388 389 61 2 3 (.ref 150) 181 (.ref 151) (.ref 152) (.ref 153) (.ref 154) 392 61 393) ::
 (156,fO "__init__" "NoLine.__init__" (P5 0 (hs 21)) .none (vS "struckdeeds.errors" 289) 155) ::
 (157,tO #[(vS "line" 395)]) ::
 (158,(⟨(.type "dict"),none,(.dict #[eS P "__module__" 382 (vS "struckdeeds.errors" 289),eS P "__firstlineno__" 386 (.int 59 385),eS P "__init__" 394 (.ref 156),eS P "__static_attributes__" 396 (.ref 157),eS P "__doc__" 397 .none] 2),#[]⟩:Obj)) ::
 (159,(⟨(.type "type"),none,(.cls (.mk "NoLine" [(.ref 89)] [(.ref 159),(.ref 89),(.type "ValueError"),(.type "Exception"),(.type "BaseException"),(.type "object")] 158 "NoLine" true [] [] false none false)),#[(some (.ref 143)),none,(some (vS "NoLine" 375)),(some (vS "NoLine" 383)),(some (.builtin "ValueError.__new__")),(some (.bool true))]⟩:Obj)) ::
 (160,(⟨(.type "super"),none,(.fields #[(.ref 159),(.ref 159),(.ref 159)]),#[]⟩:Obj)) ::
 (161,(⟨(.type "builtin_function_or_method"),none,(.fields #[(.builtin "object.__init_subclass__"),(.ref 159)]),#[]⟩:Obj)) ::
 (162,tO #[]) ::
 (163,nF #[]) ::
 (164,gP "by_names" (hs 23)) ::
 (165,kP "by_names" 402 403 404 64 1 3 (.ref 162) 181 (.ref 163) .none .none (.ref 164) 405 64 406) ::
 (166,fP "by_names" (hs 23) .none (vS "struckdeeds.worlds" 400) 165) ::
 (167,tO #[]) ::
 (168,nF #[]) ::
 (169,gP "rising_by_names" (hs 24)) ::
 (170,kP "rising_by_names" 408 409 410 66 1 3 (.ref 167) 181 (.ref 168) .none .none (.ref 169) 411 66 412) ::
 (171,fP "rising_by_names" (hs 24) .none (vS "struckdeeds.worlds" 400) 170) ::
 (172,tO #[]) ::
 (173,nF #[]) ::
 (174,tO #[(vS "world" 419),(vS "deed" 420),(vS "things" 421)]) ::
 (175,tO #[]) ::
 (176,gP "done" (hs 26)) ::
 (177,kP "done" 416 417 418 69 2 3 (.ref 172) 181 (.ref 173) (.ref 174) (.ref 175) (.ref 176) 422 69 423) ::
 (178,fP "done" (hs 26) .none (vS "struckdeeds.doings" 414) 177) ::
 (179,tO #[]) ::
 (180,nF #[]) ::
 (181,tO #[(vS "world" 428),(vS "deed" 429),(vS "things" 430),(vS "word" 431),(vS "name" 432)]) ::
 (182,tO #[]) ::
 (183,gP "back_deed" (hs 27)) ::
 (184,kP "back_deed" 425 426 427 74 2 3 (.ref 179) 181 (.ref 180) (.ref 181) (.ref 182) (.ref 183) 433 74 434) ::
 (185,fP "back_deed" (hs 27) .none (vS "struckdeeds.doings" 414) 184) ::
 (186,tO #[]) ::
 (187,nF #[]) ::
 (188,tO #[(vS "things" 439),(vS "deed" 440),(vS "made" 441),(vS "name" 442)]) ::
 (189,tO #[]) ::
 (190,gP "refuse_undoable" (hs 28)) ::
 (191,kP "refuse_undoable" 436 437 438 91 2 3 (.ref 186) 181 (.ref 187) (.ref 188) (.ref 189) (.ref 190) 443 91 444) ::
 (192,fP "refuse_undoable" (hs 28) .none (vS "struckdeeds.doings" 414) 191) ::
 (193,tO #[]) ::
 (194,nF #[]) ::
 (195,tO #[(vS "things" 449),(vS "deed" 450),(vS "word" 451),(vS "name" 452)]) ::
 (196,tO #[]) ::
 (197,gP "change" (hs 29)) ::
 (198,kP "change" 446 447 448 98 2 3 (.ref 193) 181 (.ref 194) (.ref 195) (.ref 196) (.ref 197) 453 98 454) ::
 (199,fP "change" (hs 29) .none (vS "struckdeeds.doings" 414) 198) ::
 (200,tO #[]) ::
 (201,nF #[]) ::
 (202,tO #[(vS "things" 459),(vS "name" 460),(vS "more" 461),(vS "place" 462),(vS "count" 463)]) ::
 (203,tO #[]) ::
 (204,gP "add_count" (hs 30)) ::
 (205,kP "add_count" 456 457 458 116 3 3 (.ref 200) 181 (.ref 201) (.ref 202) (.ref 203) (.ref 204) 464 116 465) ::
 (206,fP "add_count" (hs 30) .none (vS "struckdeeds.doings" 414) 205) ::
 (207,tO #[]) ::
 (208,nF #[]) ::
 (209,tO #[(vS "world" 472),(vS "row" 473)]) ::
 (210,tO #[]) ::
 (211,gP "gone" (hs 32)) ::
 (212,kP "gone" 469 470 471 120 2 3 (.ref 207) 181 (.ref 208) (.ref 209) (.ref 210) (.ref 211) 474 120 475) ::
 (213,fP "gone" (hs 32) .none (vS "struckdeeds.rows" 467) 212) ::
 (214,tO #[]) ::
 (215,nF #[]) ::
 (216,tO #[(vS "world" 480),(vS "row" 481),(vS "here" 482),(vS "back" 483),(vS "number" 484),(vS "deed" 485)]) ::
 (217,tO #[]) ::
 (218,gP "walked" (hs 33)) ::
 (219,kP "walked" 477 478 479 122 2 3 (.ref 214) 181 (.ref 215) (.ref 216) (.ref 217) (.ref 218) 486 122 487) ::
 (220,fP "walked" (hs 33) .none (vS "struckdeeds.rows" 467) 219) ::
 (221,tO #[]) ::
 (222,nF #[]) ::
 (223,gP "makers" (hs 35)) ::
 (224,kP "makers" 491 492 493 133 1 3 (.ref 221) 181 (.ref 222) .none .none (.ref 223) 494 133 495) ::
 (225,fP "makers" (hs 35) .none (vS "struckdeeds.books" 489) 224) ::
 (226,tO #[]) ::
 (227,nF #[]) ::
 (228,gP "deeds_of" (hs 36)) ::
 (229,kP "deeds_of" 497 498 499 136 1 3 (.ref 226) 181 (.ref 227) .none .none (.ref 228) 500 136 501) ::
 (230,fP "deeds_of" (hs 36) .none (vS "struckdeeds.books" 489) 229) ::
 (231,tO #[]) ::
 (232,nF #[]) ::
 (233,tO #[(vS "book" 506)]) ::
 (234,tO #[]) ::
 (235,gP "book_world" (hs 37)) ::
 (236,kP "book_world" 503 504 505 138 1 3 (.ref 231) 181 (.ref 232) (.ref 233) (.ref 234) (.ref 235) 507 138 508) ::
 (237,fP "book_world" (hs 37) .none (vS "struckdeeds.books" 489) 236) ::
 (238,tO #[]) ::
 (239,nF #[]) ::
 (240,tO #[(vS "book" 513),(vS "thing" 514)]) ::
 (241,tO #[]) ::
 (242,gP "is_number" (hs 38)) ::
 (243,kP "is_number" 510 511 512 140 2 3 (.ref 238) 181 (.ref 239) (.ref 240) (.ref 241) (.ref 242) 515 140 516) ::
 (244,fP "is_number" (hs 38) .none (vS "struckdeeds.books" 489) 243) ::
 (245,tO #[]) ::
 (246,nF #[]) ::
 (247,gP "needs" (hs 39)) ::
 (248,kP "needs" 518 519 520 142 2 3 (.ref 245) 181 (.ref 246) .none .none (.ref 247) 521 142 522) ::
 (249,fP "needs" (hs 39) .none (vS "struckdeeds.books" 489) 248) ::
 (250,tO #[]) ::
 (251,nF #[]) ::
 (252,tO #[(vS "_law_cell" 529)]) ::
 (253,tO #[]) ::
 (254,gP "_law_mixed" (hs 41)) ::
 (255,kP "_law_mixed" 526 527 528 148 1 3 (.ref 250) 181 (.ref 251) (.ref 252) (.ref 253) (.ref 254) 530 148 531) ::
 (256,fP "_law_mixed" (hs 41) .none (vS "law_struckdeeds_k31_worlds_and_needs_of_book" 524) 255)::[])
noncomputable abbrev hX5 (w:World) (os:OsState):PySem.W.SharedT:=⟨hT5 w.params,257,{ },⟨[]⟩,{ },533,os⟩
def hD6:Params->List DictEntry:=fun P=>hD5 P++[eS P "_law_take" 541 (.ref 263),eS P "_law_names" 547 (.ref 268),eS P "_law_deed" 553 (.ref 273),eS P "_law_after" 559 (.ref 278),eS P "_law_start" 565 (.ref 283),eS P "_law_book" 583 (.ref 290),eS P "_law_made" 590 (.ref 297),eS P "_law_must" 597 (.ref 304),eS P "_law_world" 603 (.ref 309),eS P "_law_needed" 609 (.ref 314),eS P "_law_refused" 619 (.ref 321),eS P "law" 625 (.ref 326)]
noncomputable def hT6:Params->PySem.W.BT:=fun P=>hI (hT5 P) (
 (3,(⟨.type "dict", none,.dict (hD6 P).toArray 55,#[]⟩:Obj)) ::
 (12,lF [(5,0,20),(7,0,25),(11,0,32),(13,0,39),(17,0,47),(19,0,52),(29,0,59),(35,0,66),(37,0,73),(43,0,78),(47,0,85),(49,0,98),(51,0,110),(55,0,129),(59,0,148),(64,0,165),(66,0,170),(69,0,177),(74,0,184),(91,0,191),(98,0,198),(116,0,205),(120,0,212),(122,0,219),(133,0,224),(136,0,229),(138,0,236),(140,0,243),(142,0,248),(148,0,255),(150,0,262),(153,0,267),(164,0,272),(185,0,277),(193,0,282),(196,0,289),(212,0,296),(214,0,303),(220,0,308),(241,0,313),(243,0,320),(252,0,325)]) ::
 (257,tO #[]) ::
 (258,nF #[]) ::
 (259,tO #[(vS "_law_pack" 536),(vS "_law_size" 537),(vS "_law_digit" 538)]) ::
 (260,tO #[]) ::
 (261,gP "_law_take" (hs 42)) ::
 (262,kP "_law_take" 533 534 535 150 2 3 (.ref 257) 181 (.ref 258) (.ref 259) (.ref 260) (.ref 261) 539 150 540) ::
 (263,fP "_law_take" (hs 42) .none (vS "law_struckdeeds_k31_worlds_and_needs_of_book" 524) 262) ::
 (264,tO #[]) ::
 (265,nF #[]) ::
 (266,gP "_law_names" (hs 43)) ::
 (267,kP "_law_names" 542 543 544 153 2 3 (.ref 264) 181 (.ref 265) .none .none (.ref 266) 545 153 546) ::
 (268,fP "_law_names" (hs 43) .none (vS "law_struckdeeds_k31_worlds_and_needs_of_book" 524) 267) ::
 (269,tO #[]) ::
 (270,nF #[]) ::
 (271,gP "_law_deed" (hs 44)) ::
 (272,kP "_law_deed" 548 549 550 164 3 3 (.ref 269) 181 (.ref 270) .none .none (.ref 271) 551 164 552) ::
 (273,fP "_law_deed" (hs 44) .none (vS "law_struckdeeds_k31_worlds_and_needs_of_book" 524) 272) ::
 (274,tO #[]) ::
 (275,nF #[]) ::
 (276,gP "_law_after" (hs 45)) ::
 (277,kP "_law_after" 554 555 556 185 3 3 (.ref 274) 181 (.ref 275) .none .none (.ref 276) 557 185 558) ::
 (278,fP "_law_after" (hs 45) .none (vS "law_struckdeeds_k31_worlds_and_needs_of_book" 524) 277) ::
 (279,tO #[]) ::
 (280,nF #[]) ::
 (281,gP "_law_start" (hs 46)) ::
 (282,kP "_law_start" 560 561 562 193 3 3 (.ref 279) 181 (.ref 280) .none .none (.ref 281) 563 193 564) ::
 (283,fP "_law_start" (hs 46) .none (vS "law_struckdeeds_k31_worlds_and_needs_of_book" 524) 282) ::
 (284,tO #[]) ::
 (285,nF #[]) ::
 (286,tO #[(vS "_law_head" 569),(vS "_law_cells" 570),(vS "_law_pack" 571),(vS "_law_spare" 572),(vS "_law_amount" 573),(vS "_law_start_here" 574),(vS "_law_some" 575),(vS "_law_lines" 576),(vS "_law_cell" 577),(vS "_law_digits" 578),(vS "_law_hand" 579),(vS "_law_deed_here" 580)]) ::
 (287,tO #[]) ::
 (288,gP "_law_book" (hs 47)) ::
 (289,kP "_law_book" 566 567 568 196 2 3 (.ref 284) 181 (.ref 285) (.ref 286) (.ref 287) (.ref 288) 581 196 582) ::
 (290,fP "_law_book" (hs 47) .none (vS "law_struckdeeds_k31_worlds_and_needs_of_book" 524) 289) ::
 (291,tO #[]) ::
 (292,nF #[]) ::
 (293,tO #[(vS "_law_deed_here" 587)]) ::
 (294,tO #[]) ::
 (295,gP "_law_made" (hs 48)) ::
 (296,kP "_law_made" 584 585 586 212 1 3 (.ref 291) 181 (.ref 292) (.ref 293) (.ref 294) (.ref 295) 588 212 589) ::
 (297,fP "_law_made" (hs 48) .none (vS "law_struckdeeds_k31_worlds_and_needs_of_book" 524) 296) ::
 (298,tO #[]) ::
 (299,nF #[]) ::
 (300,tO #[(vS "_law_deed_here" 594)]) ::
 (301,tO #[]) ::
 (302,gP "_law_must" (hs 49)) ::
 (303,kP "_law_must" 591 592 593 214 1 3 (.ref 298) 181 (.ref 299) (.ref 300) (.ref 301) (.ref 302) 595 214 596) ::
 (304,fP "_law_must" (hs 49) .none (vS "law_struckdeeds_k31_worlds_and_needs_of_book" 524) 303) ::
 (305,tO #[]) ::
 (306,nF #[]) ::
 (307,gP "_law_world" (hs 50)) ::
 (308,kP "_law_world" 598 599 600 220 2 3 (.ref 305) 181 (.ref 306) .none .none (.ref 307) 601 220 602) ::
 (309,fP "_law_world" (hs 50) .none (vS "law_struckdeeds_k31_worlds_and_needs_of_book" 524) 308) ::
 (310,tO #[]) ::
 (311,nF #[]) ::
 (312,gP "_law_needed" (hs 51)) ::
 (313,kP "_law_needed" 604 605 606 241 2 3 (.ref 310) 181 (.ref 311) .none .none (.ref 312) 607 241 608) ::
 (314,fP "_law_needed" (hs 51) .none (vS "law_struckdeeds_k31_worlds_and_needs_of_book" 524) 313) ::
 (315,tO #[]) ::
 (316,nF #[]) ::
 (317,tO #[(vS "_law_book_here" 613),(vS "_law_number" 614),(vS "_law_caught" 615),(vS "e" 616)]) ::
 (318,tO #[]) ::
 (319,gP "_law_refused" (hs 52)) ::
 (320,kP "_law_refused" 610 611 612 243 2 3 (.ref 315) 181 (.ref 316) (.ref 317) (.ref 318) (.ref 319) 617 243 618) ::
 (321,fP "_law_refused" (hs 52) .none (vS "law_struckdeeds_k31_worlds_and_needs_of_book" 524) 320) ::
 (322,tO #[]) ::
 (323,nF #[]) ::
 (324,gP "law" (hs 53)) ::
 (325,kP "law" 620 621 622 252 1 3 (.ref 322) 181 (.ref 323) .none .none (.ref 324) 623 252 624) ::
 (326,fP "law" (hs 53) .none (vS "law_struckdeeds_k31_worlds_and_needs_of_book" 524) 325)::[])
noncomputable abbrev hX6 (w:World) (os:OsState):PySem.W.SharedT:=⟨hT6 w.params,327,{ },⟨[]⟩,{ },626,os⟩
noncomputable abbrev hX7 (w:World) (os:OsState):PySem.W.SharedT:=⟨hT6 w.params,327,{ },⟨[]⟩,{ },626,os⟩
noncomputable def hg (P:Params) (a:Nat):Obj:=((hT6 P).get a).getD default
noncomputable def hK:Params->PySem.W.Frag:=fun P=>
 (nat_lit 2,hg P 2) ::
 (nat_lit 3,hg P 3) ::
 (nat_lit 20,hg P 20) ::
 (nat_lit 21,fP "is_whole" GR .none (vS "struckdeeds.words" 187) 20) ::
 (nat_lit 25,hg P 25) ::
 (nat_lit 26,fP "is_name" G0 .none (vS "struckdeeds.words" 187) 25) ::
 (nat_lit 32,hg P 32) ::
 (nat_lit 33,fP "is_within" F7 .none (vS "struckdeeds.words" 187) 32) ::
 (nat_lit 39,hg P 39) ::
 (nat_lit 40,fP "is_place" GS .none (vS "struckdeeds.words" 187) 39) ::
 (nat_lit 41,(⟨(.type "dict"),none,(.dict #[eS P "put" 226 (vS "npk" 227),eS P "take" 228 (vS "n" 229),eS P "move" 230 (vS "np" 231),eS P "count" 232 (vS "nk" 233),eS P "name" 234 (vS "nn" 235),eS P "split" 236 (vS "nnpk" 237),eS P "join" 238 (vS "nn" 239)] 7),#[]⟩:Obj)) ::
 (nat_lit 47,hg P 47) ::
 (nat_lit 48,fP "form_of" J5 .none (vS "struckdeeds.deeds" 224) 47) ::
 (nat_lit 52,hg P 52) ::
 (nat_lit 53,fP "is_deed" G1 .none (vS "struckdeeds.deeds" 224) 52) ::
 (nat_lit 59,hg P 59) ::
 (nat_lit 60,fP "fits" T9 .none (vS "struckdeeds.deeds" 224) 59) ::
 (nat_lit 66,hg P 66) ::
 (nat_lit 67,fP "names_in" GT .none (vS "struckdeeds.deeds" 224) 66) ::
 (nat_lit 73,hg P 73) ::
 (nat_lit 74,fP "made_by" J6 .none (vS "struckdeeds.deeds" 224) 73) ::
 (nat_lit 78,hg P 78) ::
 (nat_lit 79,fP "must_stand" CZ .none (vS "struckdeeds.deeds" 224) 78) ::
 (nat_lit 88,hg P 88) ::
 (nat_lit 89,(⟨(.type "type"),none,(.cls (.mk "StrikeError" [(.type "ValueError")] [(.ref 89),(.type "ValueError"),(.type "Exception"),(.type "BaseException"),(.type "object")] 88 "StrikeError" true [] [(.ref 102),(.ref 121),(.ref 140),(.ref 159)] false none false)),#[(some (.ref 80)),none,(some (vS "StrikeError" 291)),(some (vS "StrikeError" 299)),(some (.builtin "ValueError.__new__")),(some (.bool true))]⟩:Obj)) ::
 (nat_lit 90,hg P 90) ::
 (nat_lit 101,hg P 101) ::
 (nat_lit 102,hg P 102) ::
 (nat_lit 120,hg P 120) ::
 (nat_lit 121,hg P 121) ::
 (nat_lit 139,hg P 139) ::
 (nat_lit 140,hg P 140) ::
 (nat_lit 155,hg P 155) ::
 (nat_lit 156,fO "__init__" "NoLine.__init__" BQ .none (vS "struckdeeds.errors" 289) 155) ::
 (nat_lit 158,hg P 158) ::
 (nat_lit 159,(⟨(.type "type"),none,(.cls (.mk "NoLine" [(.ref 89)] [(.ref 159),(.ref 89),(.type "ValueError"),(.type "Exception"),(.type "BaseException"),(.type "object")] 158 "NoLine" true [] [] false none false)),#[(some (.ref 143)),none,(some (vS "NoLine" 375)),(some (vS "NoLine" 383)),(some (.builtin "ValueError.__new__")),(some (.bool true))]⟩:Obj)) ::
 (nat_lit 165,hg P 165) ::
 (nat_lit 166,fP "by_names" ES .none (vS "struckdeeds.worlds" 400) 165) ::
 (nat_lit 170,hg P 170) ::
 (nat_lit 171,fP "rising_by_names" BD .none (vS "struckdeeds.worlds" 400) 170) ::
 (nat_lit 177,hg P 177) ::
 (nat_lit 178,fP "done" TB .none (vS "struckdeeds.doings" 414) 177) ::
 (nat_lit 184,hg P 184) ::
 (nat_lit 185,fP "back_deed" F9 .none (vS "struckdeeds.doings" 414) 184) ::
 (nat_lit 191,hg P 191) ::
 (nat_lit 192,fP "refuse_undoable" BR .none (vS "struckdeeds.doings" 414) 191) ::
 (nat_lit 198,hg P 198) ::
 (nat_lit 199,fP "change" KK .none (vS "struckdeeds.doings" 414) 198) ::
 (nat_lit 205,hg P 205) ::
 (nat_lit 206,fP "add_count" F8 .none (vS "struckdeeds.doings" 414) 205) ::
 (nat_lit 212,hg P 212) ::
 (nat_lit 213,fP "gone" TC .none (vS "struckdeeds.rows" 467) 212) ::
 (nat_lit 219,hg P 219) ::
 (nat_lit 220,fP "walked" KL .none (vS "struckdeeds.rows" 467) 219) ::
 (nat_lit 224,hg P 224) ::
 (nat_lit 225,fP "makers" G2 .none (vS "struckdeeds.books" 489) 224) ::
 (nat_lit 229,hg P 229) ::
 (nat_lit 230,fP "deeds_of" ET .none (vS "struckdeeds.books" 489) 229) ::
 (nat_lit 236,hg P 236) ::
 (nat_lit 237,fP "book_world" ED .none (vS "struckdeeds.books" 489) 236) ::
 (nat_lit 243,hg P 243) ::
 (nat_lit 244,fP "is_number" FA .none (vS "struckdeeds.books" 489) 243) ::
 (nat_lit 248,hg P 248) ::
 (nat_lit 249,fP "needs" KM .none (vS "struckdeeds.books" 489) 248) ::
 (nat_lit 255,hg P 255) ::
 (nat_lit 256,fP "_law_mixed" EE .none (vS "law_struckdeeds_k31_worlds_and_needs_of_book" 524) 255) ::
 (nat_lit 262,hg P 262) ::
 (nat_lit 263,fP "_law_take" FC .none (vS "law_struckdeeds_k31_worlds_and_needs_of_book" 524) 262) ::
 (nat_lit 267,hg P 267) ::
 (nat_lit 268,fP "_law_names" C0 .none (vS "law_struckdeeds_k31_worlds_and_needs_of_book" 524) 267) ::
 (nat_lit 272,hg P 272) ::
 (nat_lit 273,fP "_law_deed" E1 .none (vS "law_struckdeeds_k31_worlds_and_needs_of_book" 524) 272) ::
 (nat_lit 277,hg P 277) ::
 (nat_lit 278,fP "_law_after" C6 .none (vS "law_struckdeeds_k31_worlds_and_needs_of_book" 524) 277) ::
 (nat_lit 282,hg P 282) ::
 (nat_lit 283,fP "_law_start" D0 .none (vS "law_struckdeeds_k31_worlds_and_needs_of_book" 524) 282) ::
 (nat_lit 289,hg P 289) ::
 (nat_lit 290,fP "_law_book" FD .none (vS "law_struckdeeds_k31_worlds_and_needs_of_book" 524) 289) ::
 (nat_lit 296,hg P 296) ::
 (nat_lit 297,fP "_law_made" FE .none (vS "law_struckdeeds_k31_worlds_and_needs_of_book" 524) 296) ::
 (nat_lit 303,hg P 303) ::
 (nat_lit 304,fP "_law_must" FF .none (vS "law_struckdeeds_k31_worlds_and_needs_of_book" 524) 303) ::
 (nat_lit 308,hg P 308) ::
 (nat_lit 309,fP "_law_world" C7 .none (vS "law_struckdeeds_k31_worlds_and_needs_of_book" 524) 308) ::
 (nat_lit 313,hg P 313) ::
 (nat_lit 314,fP "_law_needed" CD .none (vS "law_struckdeeds_k31_worlds_and_needs_of_book" 524) 313) ::
 (nat_lit 320,hg P 320) ::
 (nat_lit 321,fP "_law_refused" D3 .none (vS "law_struckdeeds_k31_worlds_and_needs_of_book" 524) 320) ::
 (nat_lit 325,hg P 325) ::
 (nat_lit 326,fP "law" W7 .none (vS "law_struckdeeds_k31_worlds_and_needs_of_book" 524) 325)::[]
def hA:List Addr:=[2,3,20,21,25,26,32,33,39,40,41,47,48,52,53,59,60,66,67,73,74,78,79,88,89,90,101,102,120,121,139,140,155,156,158,159,165,166,170,171,177,178,184,185,191,192,198,199,205,206,212,213,219,220,224,225,229,230,236,237,243,244,248,249,255,256,262,263,267,268,272,273,277,278,282,283,289,290,296,297,303,304,308,309,313,314,320,321,325,326]
theorem hE:∀P,hA=(hK P).map (·.1):=fun _=>by kernel_rfl
theorem hp1 (w:World):(fun os=>PySem.W.topGo treeTable PySem.Challenge.pw_struckdeeds_k31_worlds_and_needs_of_book w 11 (a2W (a0X 6)) 12 ⟨a3V w.params,⟨[]⟩,b6Q,b7J,os⟩ (PySem.W.topStub PySem.Challenge.pw_struckdeeds_k31_worlds_and_needs_of_book))=fun os=>some ((hX1 w os).abs,⟨denote treeTable hC,hC,{ line:=0,col:=0,endLine:=0,endCol:=0 },hF⟩):=by kernel_rfl
theorem hp2 (w:World):(fun os=>a9Z treeTable PySem.Challenge.pw_struckdeeds_k31_worlds_and_needs_of_book w 11 (a2W (a0X 6)) 1 1 (hX1 w os) (PySem.W.blockOf hB hN hC { line:=0,col:=0,endLine:=0,endCol:=0 } hF))=fun os=>some (.next,hX2 w os,hC,{ line:=0,col:=0,endLine:=0,endCol:=0 }):=by kernel_rfl
def hQ3:List Stmt:=(hB.drop 0).take 18
abbrev wB (w:World):Prop:=(fun os=>a9Z treeTable PySem.Challenge.pw_struckdeeds_k31_worlds_and_needs_of_book w 11 (a2W (a0X 6)) 1 640 (hX2 w os) (b1X hQ3 hN hC { line:=0,col:=0,endLine:=0,endCol:=0 } hF))=fun os=>some (.next,hX3 w os,hC,{ line:=47,col:=0,endLine:=48,endCol:=8 })
theorem cO (w:World):(fun os=>a9Z treeTable PySem.Challenge.pw_struckdeeds_k31_worlds_and_needs_of_book (w.withFollow "special-get-raises" false) 11 (a2W (a0X 6)) 1 640 (hX2 (w.withFollow "special-get-raises" false) os) (b1X hQ3 hN hC { line:=0,col:=0,endLine:=0,endCol:=0 } hF))=fun os=>some (.next,hX3 (w.withFollow "special-get-raises" false) os,hC,{ line:=47,col:=0,endLine:=48,endCol:=8 }):=by kernel_rfl
theorem jN (w:World):(fun os=>a9Z treeTable PySem.Challenge.pw_struckdeeds_k31_worlds_and_needs_of_book (w.withFollow "special-get-raises" true) 11 (a2W (a0X 6)) 1 640 (hX2 (w.withFollow "special-get-raises" true) os) (b1X hQ3 hN hC { line:=0,col:=0,endLine:=0,endCol:=0 } hF))=fun os=>some (.next,hX3 (w.withFollow "special-get-raises" true) os,hC,{ line:=47,col:=0,endLine:=48,endCol:=8 }):=by kernel_rfl
theorem hp3:∀w:World,wB w:=PySem.W.byRow2 "special-get-raises" cO jN
def hQ4:List Stmt:=(hB.drop 18).take 3
theorem hp4 (w:World):(fun os=>a9Z treeTable PySem.Challenge.pw_struckdeeds_k31_worlds_and_needs_of_book w 11 (a2W (a0X 6)) 1 704 (hX3 w os) (b1X hQ4 hN hC { line:=47,col:=0,endLine:=48,endCol:=8 } hF))=fun os=>some (.next,hX4 w os,hC,{ line:=55,col:=0,endLine:=58,endCol:=28 }):=by kernel_rfl
def hQ5:List Stmt:=(hB.drop 21).take 21
theorem hp5 (w:World):(fun os=>a9Z treeTable PySem.Challenge.pw_struckdeeds_k31_worlds_and_needs_of_book w 11 (a2W (a0X 6)) 1 734 (hX4 w os) (b1X hQ5 hN hC { line:=55,col:=0,endLine:=58,endCol:=28 } hF))=fun os=>some (.next,hX5 w os,hC,{ line:=148,col:=0,endLine:=149,endCol:=94 }):=by kernel_rfl
def hQ6:List Stmt:=(hB.drop 42).take 12
theorem hp6 (w:World):(fun os=>a9Z treeTable PySem.Challenge.pw_struckdeeds_k31_worlds_and_needs_of_book w 11 (a2W (a0X 6)) 1 344 (hX5 w os) (b1X hQ6 hN hC { line:=148,col:=0,endLine:=149,endCol:=94 } hF))=fun os=>some (.next,hX6 w os,hC,{ line:=252,col:=0,endLine:=270,endCol:=62 }):=by kernel_rfl
theorem hp7 (w:World):(fun os=>a6K treeTable PySem.Challenge.pw_struckdeeds_k31_worlds_and_needs_of_book w 11 (a2W (a0X 6)) 2 (hX6 w os).abs (b3V [] hN hC { line:=252,col:=0,endLine:=270,endCol:=62 } hF))=fun os=>some (hX7 w os).abs:=by kernel_rfl
theorem hR1:hB=(hQ3++(hQ4++(hQ5++(hQ6++[])))):=by kernel_rfl
theorem hr7 (w:World) (os:OsState):a6K treeTable PySem.Challenge.pw_struckdeeds_k31_worlds_and_needs_of_book w 11 (a2W (a0X 6)) 2 (hX6 w os).abs (b3V [] hN hC { line:=252,col:=0,endLine:=270,endCol:=62 } hF)=some (hX7 w os).abs:=congrFun (hp7 w) os
theorem hr6 (w:World) (os:OsState):a6K treeTable PySem.Challenge.pw_struckdeeds_k31_worlds_and_needs_of_book w 11 (a2W (a0X 6)) (344+2) (hX5 w os).abs (b3V (hQ6++[]) hN hC { line:=148,col:=0,endLine:=149,endCol:=94 } hF)=some (hX7 w os).abs:=b7Z (n:=344) (N:=2) (s:=(hX5 w os).abs) (s':=(hX6 w os).abs) (r:=(hX7 w os).abs) (l:=hQ6) (rest:=[]) (c:=hC) (pos:={ line:=148,col:=0,endLine:=149,endCol:=94 }) (p':={ line:=252,col:=0,endLine:=270,endCol:=62 }) (env:=hN) (q:={ line:=0,col:=0,endLine:=0,endCol:=0 }) (b3X (congrFun (hp6 w) os)) (hr7 w os)
theorem hr5 (w:World) (os:OsState):a6K treeTable PySem.Challenge.pw_struckdeeds_k31_worlds_and_needs_of_book w 11 (a2W (a0X 6)) (734+(344+2)) (hX4 w os).abs (b3V (hQ5++(hQ6++[])) hN hC { line:=55,col:=0,endLine:=58,endCol:=28 } hF)=some (hX7 w os).abs:=b7Z (n:=734) (N:=(344+2)) (s:=(hX4 w os).abs) (s':=(hX5 w os).abs) (r:=(hX7 w os).abs) (l:=hQ5) (rest:=(hQ6++[])) (c:=hC) (pos:={ line:=55,col:=0,endLine:=58,endCol:=28 }) (p':={ line:=148,col:=0,endLine:=149,endCol:=94 }) (env:=hN) (q:={ line:=0,col:=0,endLine:=0,endCol:=0 }) (b3X (congrFun (hp5 w) os)) (hr6 w os)
theorem hr4 (w:World) (os:OsState):a6K treeTable PySem.Challenge.pw_struckdeeds_k31_worlds_and_needs_of_book w 11 (a2W (a0X 6)) (704+(734+(344+2))) (hX3 w os).abs (b3V (hQ4++(hQ5++(hQ6++[]))) hN hC { line:=47,col:=0,endLine:=48,endCol:=8 } hF)=some (hX7 w os).abs:=b7Z (n:=704) (N:=(734+(344+2))) (s:=(hX3 w os).abs) (s':=(hX4 w os).abs) (r:=(hX7 w os).abs) (l:=hQ4) (rest:=(hQ5++(hQ6++[]))) (c:=hC) (pos:={ line:=47,col:=0,endLine:=48,endCol:=8 }) (p':={ line:=55,col:=0,endLine:=58,endCol:=28 }) (env:=hN) (q:={ line:=0,col:=0,endLine:=0,endCol:=0 }) (b3X (congrFun (hp4 w) os)) (hr5 w os)
theorem hr3 (w:World) (os:OsState):a6K treeTable PySem.Challenge.pw_struckdeeds_k31_worlds_and_needs_of_book w 11 (a2W (a0X 6)) (640+(704+(734+(344+2)))) (hX2 w os).abs (b3V (hQ3++(hQ4++(hQ5++(hQ6++[])))) hN hC { line:=0,col:=0,endLine:=0,endCol:=0 } hF)=some (hX7 w os).abs:=b7Z (n:=640) (N:=(704+(734+(344+2)))) (s:=(hX2 w os).abs) (s':=(hX3 w os).abs) (r:=(hX7 w os).abs) (l:=hQ3) (rest:=(hQ4++(hQ5++(hQ6++[])))) (c:=hC) (pos:={ line:=0,col:=0,endLine:=0,endCol:=0 }) (p':={ line:=47,col:=0,endLine:=48,endCol:=8 }) (env:=hN) (q:={ line:=0,col:=0,endLine:=0,endCol:=0 }) (b3X (congrFun (hp3 w) os)) (hr4 w os)
theorem hr2 (w:World) (os:OsState):a6K treeTable PySem.Challenge.pw_struckdeeds_k31_worlds_and_needs_of_book w 11 (a2W (a0X 6)) (1+(640+(704+(734+(344+2))))) (hX1 w os).abs ⟨denote treeTable hC,hC,{ line:=0,col:=0,endLine:=0,endCol:=0 },hF⟩=some (hX7 w os).abs:=PySem.W.piece_block (n:=1) (N:=(640+(704+(734+(344+2))))) (s:=(hX1 w os).abs) (s':=(hX2 w os).abs) (r:=(hX7 w os).abs) (b:=hB) (env:=hN) (c:=hC) (pos:={ line:=0,col:=0,endLine:=0,endCol:=0 }) (p':={ line:=0,col:=0,endLine:=0,endCol:=0 }) (q:={ line:=0,col:=0,endLine:=0,endCol:=0 }) (b3X (congrFun (hp2 w) os)) (by rw[hR1];exact hr3 w os)
noncomputable def hH:Params->Heap:=fun P=>PySem.W.absHeap (hT6 P) 327 { }
theorem hr1 (w:World) (os:OsState):a6K treeTable PySem.Challenge.pw_struckdeeds_k31_worlds_and_needs_of_book w 11 (a2W (a0X 6)) (12+(1+(640+(704+(734+(344+2)))))) ⟨a3V w.params,⟨[]⟩,b6Q,b7J,os⟩ (PySem.W.topStub PySem.Challenge.pw_struckdeeds_k31_worlds_and_needs_of_book)=some (hX7 w os).abs:=PySem.W.go_top (n:=12) (N:=(1+(640+(704+(734+(344+2)))))) (s':=(hX1 w os).abs) (t':=⟨denote treeTable hC,hC,{ line:=0,col:=0,endLine:=0,endCol:=0 },hF⟩) (congrFun (hp1 w) os) (hr2 w os)
theorem hR (w:World) (os:OsState):a6K treeTable PySem.Challenge.pw_struckdeeds_k31_worlds_and_needs_of_book w 11 (a2W (a0X 6)) (12+(1+(640+(704+(734+(344+2)))))) ⟨a3V w.params,⟨[]⟩,b6Q,b7J,os⟩ (PySem.W.topStub PySem.Challenge.pw_struckdeeds_k31_worlds_and_needs_of_book)=some ⟨hH w.params,⟨[]⟩,{ },626,os⟩:=(hr1 w os).trans (by kernel_rfl)
theorem hZ (w:World):(fun os=>((PySem.W.staticsOk (PySem.importedModules PySem.Challenge.pw_struckdeeds_k31_worlds_and_needs_of_book.main.body) (a3V w.params) (hH w.params)&&PySem.W.namesBound PySem.Challenge.pw_struckdeeds_k31_worlds_and_needs_of_book (hH w.params)&&PySem.W.gensDone ⟨hH w.params,⟨[]⟩,{ },626,os⟩&&PySem.W.laidKept (a3V w.params) (hH w.params)),PySem.W.openSeen hV [a0Q "FORMS"] (PySem.importedModules PySem.Challenge.pw_struckdeeds_k31_worlds_and_needs_of_book.main.body) (fun s=>PySem.W.xlAt hV [] s&&PySem.W.recOk (b3Z (b1Z (b3J PySem.Challenge.rw_struckdeeds_k31_worlds_and_needs_of_book))) s) true ⟨hH w.params,⟨[]⟩,{ },626,os⟩,b6W (a5Z hK hA hE) ⟨hH w.params,⟨[]⟩,{ },626,os⟩))=fun _=>(true,PySem.W.openGood hV [a0Q "FORMS"],b6K (a5Z hK hA hE) w):=by kernel_rfl
theorem hO:PySem.W.opening PySem.Challenge.pw_struckdeeds_k31_worlds_and_needs_of_book=PySem.W.plainProg PySem.Challenge.pw_struckdeeds_k31_worlds_and_needs_of_book.main.scope.names:=by kernel_rfl
theorem hG (w:World):((a3V w.params).isNs mainGlobals&&(⟨[]⟩:Array GenState).size==0,(a3V w.params).objs.size,(a3V w.params).nsMap mainGlobals (a0Q "__annotations__"))=(true,11,a2W (a0X 6)):=by kernel_rfl
theorem hJ (s:Shared):PySem.fenceModules? PySem.Challenge.pw_struckdeeds_k31_worlds_and_needs_of_book s=some s:=by kernel_rfl
theorem hL:PySem.W.LeftO PySem.Challenge.pw_struckdeeds_k31_worlds_and_needs_of_book hV [a0Q "FORMS"] (fun s=>PySem.W.xlAt hV [] s&&PySem.W.recOk (b3Z (b1Z (b3J PySem.Challenge.rw_struckdeeds_k31_worlds_and_needs_of_book))) s) (b6W (a5Z hK hA hE)) (b6K (a5Z hK hA hE)) 4962:=
 @PySem.W.LeftO.of_pieces PySem.Challenge.pw_struckdeeds_k31_worlds_and_needs_of_book hV [a0Q "FORMS"] (fun s=>PySem.W.xlAt hV [] s&&PySem.W.recOk (b3Z (b1Z (b3J PySem.Challenge.rw_struckdeeds_k31_worlds_and_needs_of_book))) s) _ (b6W (a5Z hK hA hE)) (b6K (a5Z hK hA hE)) 4962 true a3V hH ⟨[]⟩ ⟨[]⟩ b6Q { } b7J 626 11 (a2W (a0X 6)) (12+(1+(640+(704+(734+(344+2)))))) (PySem.W.boot_open hO (by decide) hJ) hG hR (by decide) hZ
theorem hS:PySem.W.OpenLaw.wellSaid PySem.Challenge.rw_struckdeeds_k31_worlds_and_needs_of_book=true:=by kernel_rfl
theorem v7 (P:Params):XKit (hK P) 159:=⟨by kernel_rfl,by kernel_rfl,by kernel_rfl,by kernel_rfl,by kernel_rfl,by kernel_rfl,by kernel_rfl,by kernel_rfl⟩
theorem v8 (P:Params):a3Q (hK P) (.ref 159) (.ref 159)=some true:=by kernel_rfl
theorem v9 (P:Params):L8 (hK P) 159 "line" := (by kernel_rfl:a8K (hK P) (.ref 159) "line"=some none)
theorem vA (P:Params):a3Q (hK P) (.type "NoneType") (.ref 159)=some false:=by kernel_rfl
set_option hygiene false
local macro_rules | `(tactic| walk_at "lc")=>`(tactic| first | exact Or.inl rfl | exact Or.inr rfl | exact Or.inr (Or.inl rfl) | exact Or.inr (Or.inr rfl))
local macro_rules | `(tactic| walk_at "or")=>`(tactic| first | exact .inl rfl | exact .inr rfl | assumption)
local macro_rules | `(tactic| walk_at "q")=>`(tactic| first | ((with_reducible show PSs _ [] _);exact @jU _) | ((with_reducible show PSs _ [_] _);exact @RU _ _ _ (by walk_at "s")) | ((with_reducible show PSs _ (_::_) _);exact @U5 _ _ _ _ _ (by walk_at "s") (by walk_at "q")))
local macro_rules | `(tactic| walk_at "s")=>`(tactic| first | ((with_reducible show PS _ (.Assign [.Name ..] (.ListComp ..) _) _);exact @kM _ _ _ _ _ _ _ _ _ _ _ _ _ _ _ _ _ rfl (by assumption) (T7 (by rfl)) (by walk_at "lc") (by walk_at "cs") (by walk_at "n") (fun C s' H' ex' pn'=>⟨(by walk_at "g"),(by walk_at "u"),(by walk_at "e")⟩) rfl (by walk_at "or") (by intro _;rfl)) | ((with_reducible show PS _ (.Assign [.Name ..] ..) _);exact @pJ _ _ _ _ _ _ _ (by assumption) (T7 (by rfl)) (by walk_at "lc") (by walk_at "e") (by rfl) (by walk_at "or")) | ((with_reducible show PS _ (.If ..) _);first | walk_at "z" | exact @t8 _ _ _ _ _ _ _ _ (by walk_at "t") (by walk_at "q") (by walk_at "q")) | ((with_reducible show PS _ (.Return (some _) _) _);exact @pD _ _ _ _ (by walk_at "e")) | ((with_reducible show PS _ (.For ..) _);exact @pK _ _ _ _ _ _ _ _ PassesOwn.never rfl (by walk_at "n") (by walk_at "g") (by walk_at "q") (by intro _;rfl)) | ((with_reducible show PS _ (.Expr ..) _);exact @jV _ _ _ _ (by walk_at "e") (by rfl)) | ((with_reducible show PS _ (.Raise ..) _);first | ((with_reducible show PS _ (.Raise (some (.Call _ [_] ..)) ..) _);exact @mX P w K mg base _ _ _ _ _ _ _ _ _ _ _ rfl rfl rfl rfl rfl (by with_reducible assumption) (hr.mono (by decide)) rfl (by walk_at "a") (by decide) (by rfl)) | exact @cY _ _) | walk_at "x")
local macro_rules | `(tactic| walk_at "e")=>`(tactic| first | ((with_reducible show PE _ (.Name ..) _);first | exact @pvx _ _ _ _ (by rfl) (by walk_at "lc") (by decide) (by decide) | exact @lC _ _ _ _ (by rfl) (by assumption) (by decide) | exact @lB _ _ _ _ (by rfl) (by assumption) (by decide) | exact @G5 _ _ (.ty "int") _ _ (by rfl) (by assumption) PyProof.Rows.boot_int rfl (by decide) (by decide) | exact @G5 _ _ (.ty "str") _ _ (by rfl) (by assumption) PyProof.Rows.boot_str rfl (by decide) (by decide) | exact @G5 _ _ (.ty "bool") _ _ (by rfl) (by assumption) PyProof.Rows.boot_bool rfl (by decide) (by decide) | exact @G5 _ _ (.ty "list") _ _ (by rfl) (by assumption) PyProof.Rows.boot_list rfl (by decide) (by decide) | exact @G5 _ _ (.ty "tuple") _ _ (by rfl) (by assumption) PyProof.Rows.boot_tuple rfl (by decide) (by decide) | exact @G5 _ _ (.ty "dict") _ _ (by rfl) (by assumption) PyProof.Rows.boot_dict rfl (by decide) (by decide) | exact @G5 _ _ (.ty "ValueError") _ _ (by rfl) (by assumption) PyProof.Rows.boot_ValueError rfl (by decide) (by decide)) | ((with_reducible show PE _ (.ListComp ..) _);exact @kL _ _ _ _ _ _ _ _ _ _ _ _ _ rfl (by walk_at "cs") (by walk_at "n") (fun C s' H' ex' pn'=>⟨(by walk_at "g"),(by walk_at "u"),(by walk_at "e")⟩) (by intro _;rfl)) | ((with_reducible show PE _ (.DictComp ..) _);exact @gJ _ _ _ _ _ _ _ _ _ _ _ _ _ _ _ rfl hu1 (by walk_at "cs") (by walk_at "n") (fun C s' H' ex' pn'=>⟨(by walk_at "g"),(by walk_at "u"),(by walk_at "e"),(by walk_at "e")⟩) (by intro _;rfl)) | ((with_reducible show PE _ (.Constant ..) _);first | ((with_reducible show PE _ (.Constant (.int _) ..) _);exact @oW _ _ _ _) | ((with_reducible show PE _ (.Constant (.str _) ..) _);exact @oY _ _ _ _) | ((with_reducible show PE _ (.Constant (.bool _) ..) _);exact @sU _ _ _ _) | ((with_reducible show PE _ (.Constant .none ..) _);exact @oX _ _ _)) | ((with_reducible show PE _ (.Call ..) _);first | walk_at "y" | ((with_reducible show PE _ (.Call (.Name (a0Q "len") _) ..) _);exact @CB _ _ _ _ _ _ _ _ _ (@vM _ K rfl) (by rfl) (by assumption) PySem.boot_len (by walk_at "a") (by decide) (by decide) (by rfl) (by rfl)) | ((with_reducible show PE _ (.Call (.Name (a0Q "isinstance") _) ..) _);exact @CB _ _ _ _ _ _ _ _ _ (@vP _ K rfl) (by rfl) (by assumption) PyProof.Rows.boot_isinstance (by walk_at "a") (by decide) (by decide) (by rfl) (by rfl)) | ((with_reducible show PE _ (.Call (.Name (a0Q "all") _) ..) _);exact @CB _ _ _ _ _ _ _ _ _ (@vN _ K rfl rfl) (by rfl) (by assumption) PyProof.Rows.boot_all (by walk_at "a") (by decide) (by decide) (by rfl) (by rfl)) | ((with_reducible show PE _ (.Call (.Name (a0Q "any") _) ..) _);exact @CB _ _ _ _ _ _ _ _ _ (@vO _ K rfl rfl) (by rfl) (by assumption) PyProof.Rows.boot_any (by walk_at "a") (by decide) (by decide) (by rfl) (by rfl)) | ((with_reducible show PE _ (.Call (.Name (a0Q "sorted") _) ..) _);exact @CB _ _ _ _ _ _ _ _ _ (@rQ _ K rfl rfl) (by rfl) (by assumption) PyProof.Rows.boot_sorted (by walk_at "a") (by decide) (by decide) (by rfl) (by rfl)) | ((with_reducible show PE _ (.Call (.Name (a0Q "min") _) ..) _);exact @CB _ _ _ _ _ _ _ _ _ (@vV _ K rfl rfl) (by rfl) (by assumption) PyProof.Rows.boot_min (by walk_at "a") (by decide) (by decide) (by rfl) (by rfl)) | ((with_reducible show PE _ (.Call (.Name (a0Q "divmod") _) ..) _);exact @CB _ _ _ _ _ _ _ _ _ (@lS _ K rfl) (by rfl) (by assumption) PyProof.Rows.boot_divmod (by walk_at "a") (by decide) (by decide) (by rfl) (by rfl)) | ((with_reducible show PE _ (.Call (.Name (a0Q "sum") _) ..) _);exact @CB _ _ _ _ _ _ _ _ _ (@vY _ K rfl rfl) (by rfl) (by assumption) PyProof.Rows.boot_sum (by walk_at "a") (by decide) (by decide) (by rfl) (by rfl)) | ((with_reducible show PE _ (.Call (.Name (a0Q "tuple") _) ..) _);exact @IT _ _ _ _ _ _ _ _ _ (@rF _ K rfl) (by rfl) (by assumption) PyProof.Rows.boot_tuple (by walk_at "a") (by decide) (by decide) (by rfl) (by rfl)) | ((with_reducible show PE _ (.Call (.Name (a0Q "int") _) ..) _);exact @IT _ _ _ _ _ _ _ _ _ (@vW _ K rfl) (by rfl) (by assumption) PyProof.Rows.boot_int (by walk_at "a") (by decide) (by decide) (by rfl) (by rfl)) | ((with_reducible show PE _ (.Call (.Name ..) ..) _);exact @oI _ K P w mg base _ _ _ _ _ _ _ _ _ rfl rfl rfl rfl rfl (by with_reducible assumption) (hr.mono (by decide)) rfl (by walk_at "a") (by decide) (by rfl) (by rfl)) | ((with_reducible show PE _ (.Call (.Name ..) ..) _);exact @sE P w K mg base _ _ _ _ _ _ _ _ _ _ _ rfl rfl rfl rfl rfl (by with_reducible assumption) (hr.mono (by decide)) rfl (by walk_at "a") (by decide) (by rfl) (by rfl)) | ((with_reducible show PE _ (.Call (.Attribute _ (a0Q "append") _) ..) _);exact @kBm _ K _ _ _ _ _ _ _ _ _ _ _ rfl PySem.F.plainAttrs_list PySem.F.slot_list_append PySem.F.type_list_append (@fX _) (by walk_at "e") (by walk_at "a") (by rfl) (by rfl) (by rfl) (by rfl) (by rfl)) | walk_at "x") | ((with_reducible show PE _ (.BinOp ..) _);first | ((with_reducible show PE _ (.BinOp _ .Add ..) _);exact @NM _ _ _ _ _ _ _ _ (@uD _ K rfl) (by walk_at "e") (by walk_at "e")) | ((with_reducible show PE _ (.BinOp _ .Sub ..) _);exact @NM _ _ _ _ _ _ _ _ (@pN _) (by walk_at "e") (by walk_at "e")) | ((with_reducible show PE _ (.BinOp _ .Mod ..) _);exact @NM _ _ _ _ _ _ _ _ (@pO _) (by walk_at "e") (by walk_at "e")) | ((with_reducible show PE _ (.BinOp _ .FloorDiv ..) _);exact @NM _ _ _ _ _ _ _ _ (@e8 _) (by walk_at "e") (by walk_at "e")) | ((with_reducible show PE _ (.BinOp _ .Pow ..) _);exact @NM _ _ _ _ _ _ _ _ (@pP _) (by walk_at "e") (by walk_at "e"))) | ((with_reducible show PE _ (.Compare ..) _);first | walk_at "y" | ((with_reducible show PE _ (.Compare _ [.Eq] ..) _);exact @G6 _ _ _ _ _ _ _ _ (@kEq _ K rfl hu) (by walk_at "e") (by walk_at "e") (@EG _ _ (by decide) (by decide))) | ((with_reducible show PE _ (.Compare _ [.NotEq] ..) _);exact @G6 _ _ _ _ _ _ _ _ (@kNe _ K rfl hu) (by walk_at "e") (by walk_at "e") (@EG _ _ (by decide) (by decide))) | ((with_reducible show PE _ (.Compare _ [.Is] ..) _);exact @G6 _ _ _ _ _ _ _ _ (@gE _) (by walk_at "e") (by walk_at "e") (@EG _ _ (by decide) (by decide))) | ((with_reducible show PE _ (.Compare _ [.IsNot] ..) _);exact @G6 _ _ _ _ _ _ _ _ (@ZB _) (by walk_at "e") (by walk_at "e") (@EG _ _ (by decide) (by decide)))) | ((with_reducible show PE _ (.Subscript ..) _);first | ((with_reducible show PE _ (.Subscript _ (.Slice _ _ none _) _) _);exact @dM _ _ _ _ _ _ _ _ _ _ (@vQ _ K rfl) (by walk_at "e") (by walk_at "o") (by walk_at "o")) | walk_at "y" | exact @tM _ _ _ _ _ _ _ (@kIx _ K rfl) (by walk_at "e") (by walk_at "e") (fun _ _=>rfl)) | ((with_reducible show PE _ (.Tuple ..) _);exact @pT _ _ _ _ _ (by walk_at "a")) | ((with_reducible show PE _ (.List ..) _);exact @pU _ _ _ _ (by walk_at "a")) | ((with_reducible show PE _ (.IfExp ..) _);exact @cW _ _ _ _ _ _ _ _ (by walk_at "t") (by walk_at "e") (by walk_at "e")) | ((with_reducible show PE _ (.BoolOp ..) _);first | ((with_reducible show PE _ (.BoolOp _ [_] _) _);exact @pA _ _ _ _ _ (by walk_at "e")) | ((with_reducible show PE _ (.BoolOp .Or ..) _);exact @sZ _ _ _ _ _ _ _ (by walk_at "e") (by walk_at "e")) | exact @pB _ _ _ _ _ _ _ (by walk_at "e") (by walk_at "e")) | ((with_reducible show PE _ (.UnaryOp ..) _);first | ((with_reducible show PE _ (.UnaryOp .Not ..) _);exact @pC _ _ _ _ (by walk_at "e")) | exact @tG _ _ _ _ _ _ (@pQ _) (by walk_at "e")) | walk_at "x")
local macro_rules | `(tactic| walk_at "t")=>`(tactic| first | ((with_reducible show PT _ (.Compare ..) _);first | walk_at "y" | ((with_reducible show PT _ (.Compare _ [.Eq] ..) _);exact @EB _ _ _ _ _ _ _ _ (@kEq _ K rfl hu) (by walk_at "e") (by walk_at "e") (@EG _ _ (by decide) (by decide))) | ((with_reducible show PT _ (.Compare _ [.NotEq] ..) _);exact @EB _ _ _ _ _ _ _ _ (@kNe _ K rfl hu) (by walk_at "e") (by walk_at "e") (@EG _ _ (by decide) (by decide))) | ((with_reducible show PT _ (.Compare _ [.Is] ..) _);exact @EB _ _ _ _ _ _ _ _ (@gE _) (by walk_at "e") (by walk_at "e") (@EG _ _ (by decide) (by decide))) | ((with_reducible show PT _ (.Compare _ [.IsNot] ..) _);exact @EB _ _ _ _ _ _ _ _ (@ZB _) (by walk_at "e") (by walk_at "e") (@EG _ _ (by decide) (by decide))) | walk_at "x") | ((with_reducible show PT _ (.BoolOp ..) _);exact @L2.PW.pt _ _ _ (by walk_at "w")) | ((with_reducible show PT _ (.UnaryOp .Not ..) _);exact @p9 _ _ _ _ (by walk_at "t")) | exact @p7 _ _ _ (by walk_at "e") (by intro _;rfl))
local macro_rules | `(tactic| walk_at "w")=>`(tactic| first | ((with_reducible show PW _ (.BoolOp .Or ..) _);first | ((with_reducible show PW _ (.BoolOp _ [_] _) _);exact @pw_or1 _ _ _ _ (by walk_at "t")) | exact @pw_or _ _ _ _ _ _ _ (by walk_at "t") (by walk_at "w")) | ((with_reducible show PW _ (.BoolOp _ [_] _) _);exact @pw_and1 _ _ _ _ (by walk_at "t")) | exact @pw_and _ _ _ _ _ _ _ (by walk_at "t") (by walk_at "w"))
local macro_rules | `(tactic| walk_at "a")=>`(tactic| first | ((with_reducible show PA _ [] _);exact @dJ _) | exact @RW _ _ _ _ _ (by walk_at "e") (by walk_at "a") (by rfl))
local macro_rules | `(tactic| walk_at "o")=>`(tactic| first | ((with_reducible show PO _ none _);exact @k9 _) | exact @kA _ _ _ (by walk_at "e"))
local macro_rules | `(tactic| walk_at "u")=>`(tactic| first | ((with_reducible show PTs _ [] _);exact @kJ _) | exact @kK _ _ _ (by walk_at "t"))
local macro_rules | `(tactic| walk_at "n")=>`(tactic| first | ((with_reducible show PI _ _ (.Call ..) _);first | ((with_reducible show PI _ _ (.Call (.Name (a0Q "range") _) [_] ..) _);exact @aF _ _ _ _ _ _ rfl (by assumption) (by walk_at "a") (by rfl)) | walk_at "x") | walk_at "y" | exact @uB _ K _ _ _ rfl (by walk_at "e"))
local macro_rules | `(tactic| walk_at "g")=>`(tactic| first | ((with_reducible show PG _ (.Name ..) _);exact @YJ _ _ _ _ (by assumption) (T7 (by rfl)) (by walk_at "lc") (by walk_at "or")) | walk_at "x")
local macro_rules | `(tactic| walk_at "j")=>`(tactic| first | ((with_reducible show PGs _ [] _);exact @jW _) | exact @cZ _ _ _ _ _ (by walk_at "g") (by walk_at "j") (by rfl))
local macro_rules | `(tactic| walk_at "b1")=>`(tactic| exact @RU _ _ _ (by walk_at "s"))
local macro_rules | `(tactic| walk_at "b2")=>`(tactic| exact @U5 _ _ _ _ _ (by walk_at "s") (by walk_at "q"))
local macro_rules | `(tactic| walk_at "dl")=>`(tactic| first
 | (with_reducible first | refine eL ?_ | refine sD ?_ | refine eJ ?_ | refine Z3 ?_ | refine eI ?_ | refine u8 ?_ | refine Z2 ?_ | refine Z1 ?_ | refine ds_setitem ?_ | refine gQ ?_ | refine uP ?_ | refine c6 ?_ | refine dx_raise0 ?_ | refine mV (P4 ?_) | refine dx_set (P4 ?_) | refine dx_ret (P4 ?_) | refine GP (eJ ?_) | refine GP (Z3 ?_) | refine GP (eI ?_) | refine GP (Z2 ?_) | refine GP (Z1 ?_) | refine GP (ds_setitem ?_) | refine GP (gQ ?_))
 | ((with_reducible apply qJ);exact rfl)
 | (with_reducible first | refine qK ?_ | refine tW ?_ | refine qL ?_ | refine qM ?_ | refine n9 ?_ | refine tX ?_ | refine tY ?_ | refine tZ ?_ | refine eG ?_ | refine kQ ?_ | refine vJ ?_ | refine qN ?_ | refine u0 ?_ | refine qO ?_ | refine qP ?_ | refine qQ ?_ | refine u4 ?_ | refine qR ?_ | refine u5 ?_ | refine qS ?_ | refine kR ?_ | refine u6 ?_ | refine qT ?_ | refine u7 ?_ | refine kT ?_ | refine kU ?_ | refine l5 ?_ | refine fK ?_ | refine lG ?_)
 | ((with_reducible refine rH ?_ ?_);exact rfl)
 | ((with_reducible refine m5 ?_ ?_);exact rfl)
 | (with_reducible first | refine u9 ?_ | refine vK ?_ | refine vL ?_ | refine fN ?_ | refine d2A_lti ?_)
 | ((with_reducible refine uA ?_ ?_);(first
     | ((with_reducible show CMul _ _);first | exact cmul_r (by decide) (by decide) | exact cmul_l (by decide) (by decide) | exact cmul_l (by omega) (by omega))
     | ((with_reducible show oE _ _);first | exact⟨by decide,by decide⟩ | exact⟨by assumption,by assumption⟩)
     | ((with_reducible show tJ _ _);exact⟨by decide,by decide,by decide⟩)
     | (show(0:Int) < _;first | decide | assumption | omega)))
 | ((with_reducible apply l8);(first | assumption | exact zU);exact rfl)
 | ((with_reducible apply vR);(first | assumption | exact zU);exact rfl)
 | ((with_reducible refine fY ?_ ?_);(first | exact CMul.ok (cmul_r (by decide) (by decide)) | exact CMul.ok (cmul_l (by decide) (by decide))))
 | (with_reducible first | refine d2_isB ?_ | refine d2_notB ?_ | refine rd_max ?_ | refine rL ?_ | refine lU ?_ | refine fZ ?_ | refine rd_abs ?_)
 | ((with_reducible refine fE (b:=true) ?_ ?_);exact rfl)
 | ((with_reducible refine fE (b:=false) ?_ ?_);exact rfl)
 | with_reducible refine kS ?_
 | ((with_reducible apply vT);exact rfl;exact yD rfl)
 | (with_reducible refine Exists.intro _ (And.intro rfl ?_))
 | (with_reducible refine L2.kI ?_)
 | (with_reducible refine L2.kH ?_)
 | (refine L2.kI ?_)
 | (refine L2.kH ?_))
local macro_rules | `(tactic| walk_at "r")=>`(tactic| repeat walk_at "dl")
local macro_rules | `(tactic| walk_at "wkd")=>`(tactic| repeat (first | walk_at "dl" | refine BS ?_ | refine Z5 ?_))
local macro_rules | `(tactic| walk_at "wks")=>`(tactic| repeat ((fail_if_success (with_reducible show DSt _ _ _ _ _));(first | walk_at "dl" | refine BS ?_ | refine Z5 ?_)))
section
variable {P:Program}{w:World}{K:Frg}{mg:Str->Option Value}{base:Heap}
def W8:List Str:=["thing"]
theorem MH:FnScope W8 ["thing"] (AC GR):=⟨rfl,rfl,rfl,by decide +kernel,rfl,by decide +kernel,by decide +kernel⟩
theorem W9 {f:Addr}{fd:FuncData}(F:Fun K "is_whole" "is_whole" GR f fd) (n_bool:mg "bool"=none) (n_int:mg "int"=none) (n_isinstance:mg "isinstance"=none):FnOk P w K mg base CX0 1 f fd ["thing"] (spD K 1 GA):=by
 refine fnD F MH fun cdv A outer s H E hr=>?_
 have hu:=hr.units
 have nd:=MH.nd
 refine⟨_,by walk_at "b1", ?_⟩
 clear nd
 rintro xs M hl ⟨d,rfl,-⟩
 walk_at "dl";walk_at "dl";walk_at "dl"
 cases d <;>
 · walk_at "r"
   exact⟨M,zT M,fun d' e=>by cases e;exact⟨rfl,rfl⟩⟩
def TD:List Str:=["thing", "low", "high"]
theorem KN:FnScope TD ["thing", "low", "high"] (AC F7):=⟨rfl,rfl,rfl,by decide +kernel,rfl,by decide +kernel,by decide +kernel⟩
section
local macro_rules | `(tactic| walk_at "x")=>`(tactic| first | ((with_reducible show PE _ (.Compare _ [_,_] ..) _);exact @dE _ _ _ _ _ _ _ _ _ _ _ _ (@YM _) (@YM _) (by walk_at "e") (by walk_at "e") (by walk_at "e") (by with_unfolding_all rfl)))
theorem TF {f:Addr}{fd:FuncData}(F:Fun K "is_within" "is_within" F7 f fd) (h_is_whole:Has P w K mg base "is_whole" 1 ["thing"] GA):FnOk P w K mg base CX0 2 f fd ["thing", "low", "high"] (spD K 3 CK):=by
 refine fnD F KN fun cdv A outer s H E hr=>?_
 have hu:=hr.units
 have nd:=KN.nd
 refine⟨_,by walk_at "b1", ?_⟩
 clear nd
 rintro xs M hl ⟨d,lo,hi,rfl⟩
 walk_at "r"
 refine BC trivial ?_
 cases d
 case int i=>
   walk_at "r"
   refine dY (fun h=>?_) (fun h=>?_)
   · walk_at "r"
     exact⟨M,zT M,fun d' lo' hi' e=>by cases e;refine⟨?_,rfl⟩;simp only[IW];rw[h];rfl⟩
   · exact⟨M,zT M,fun d' lo' hi' e=>by cases e;refine⟨?_,rfl⟩;simp only[IW];simp at h;simp;omega⟩
 all_goals
   walk_at "r"
   exact⟨M,zT M,fun d' lo' hi' e=>by cases e;exact⟨rfl,rfl⟩⟩
end
def WA:List Str:=["thing"]
theorem MI:FnScope WA ["thing"] (AC GS):=⟨rfl,rfl,rfl,by decide +kernel,rfl,by decide +kernel,by decide +kernel⟩
theorem WB {f:Addr}{fd:FuncData}(F:Fun K "is_place" "is_place" GS f fd) (g_LAST_PLACE:∃t,mg "LAST_PLACE"=some (.int (999) t)) (h_is_within:Has P w K mg base "is_within" 2 ["thing", "low", "high"] CK):FnOk P w K mg base CX0 3 f fd ["thing"] (spD K 1 JV):=by
 refine fnD F MI fun cdv A outer s H E hr=>?_
 have hu:=hr.units
 have nd:=MI.nd
 refine⟨_,by walk_at "b1", ?_⟩
 clear nd
 rintro xs M hl ⟨d,rfl,-⟩
 walk_at "r"
 refine MB ?_
 exact⟨M,zT M,fun d' e=>by cases e;exact⟨by rw[SE],rfl⟩⟩
def PD:List Str:=["thing"]
def KO:List Str:=["sign"]
def KP:List (Option Nat):=[none]
theorem TH:KO.Nodup:=by decide +kernel
theorem PF:FnScope PD ["thing"] (AC G0):=⟨rfl,rfl,rfl,by decide +kernel,rfl,by decide +kernel,by decide +kernel⟩
section
local macro_rules | `(tactic| walk_at "cs")=>`(tactic| first | exact @GQ _ _ KO KP (AC G0) PD (by decide +kernel) (by decide +kernel) rfl rfl)
local macro_rules | `(tactic| walk_at "x")=>`(tactic| first | ((with_reducible show PT _ (.Compare _ [_,_] ..) _);exact @dF _ _ _ _ _ _ _ _ _ _ _ _ (@YM _) (@YM _) (by walk_at "e") (by walk_at "e") (by walk_at "e") (by with_unfolding_all rfl)) | ((with_reducible show PE _ (.Compare _ [.In] ..) _);exact @G6 _ _ _ _ _ _ _ _ (@kIn _ K rfl) (by walk_at "e") (by walk_at "e") (by with_unfolding_all rfl)))
theorem YC {f:Addr}{fd:FuncData}(F:Fun K "is_name" "is_name" G0 f fd) (n_all:mg "all"=none) (n_isinstance:mg "isinstance"=none) (n_len:mg "len"=none) (n_str:mg "str"=none) (g_LETTERS:∃t,mg "LETTERS"=some (.str ("abcdefghijklmnopqrstuvwxyz") t)) (g_LONGEST_NAME:∃t,mg "LONGEST_NAME"=some (.int (8) t)):FnOk P w K mg base CX0 1 f fd ["thing"] (spD K 1 LG):=by
 refine fnD F PF fun cdv A outer s H E hr=>?_
 have hu:=hr.units
 have nd:=PF.nd
 have n0:=TH
 refine⟨_,by walk_at "b2", ?_⟩
 clear nd n0
 rintro xs M hl ⟨d,rfl,hd⟩
 cases d
 case str z=>
   have hz:z.length<=sizeLine:=zN hd.1 (by decide)
   have hlen:(z.length:Int)=(z.cps.size:Int):=rfl
   walk_at "r"
   refine Z6 hz ?_
   walk_at "r"
   refine dY (fun h1=>?_) (fun h1=>?_)
   · walk_at "r"
     refine dY (fun h2=>?_) (fun h2=>?_)
     · walk_at "r"
       exact⟨M,zT M,fun d' e=>by cases e;refine⟨?_,rfl⟩;simp only[C9];simp at h1 h2;rw[hlen] at h1 h2;simp;omega⟩
     · walk_at "r"
       refine AI (B8 0) (by simp[KP]) ?_
       refine lA ?_
       walk_at "r"
       refine⟨by simp only[BL,zX,a4X];exact zQ hd.1 (by decide),fun _=>true,fun d=>.bool (lK d),?_,?_⟩
       · intro d hd' M'
         obtain⟨c,hc,rfl⟩:=zL.mp hd'
         walk_at "dl"
         refine⟨rfl,?_⟩
         walk_at "dl"
         refine⟨rfl,rfl,fun _=>?_⟩
         walk_at "r"
         refine l9 ?_
         rw[X4 c (hd.2 c hc)]
         exact⟨by simp[lK],rfl⟩
       · walk_at "r"
         rw[aU]
         refine fG ?_
         rw[X5]
         exact⟨M,zT M,fun d' e=>by cases e;refine⟨?_,rfl⟩;simp only[C9];simp at h1 h2;rw[hlen] at h1 h2;simp;omega⟩
   · walk_at "r"
     exact⟨M,zT M,fun d' e=>by cases e;refine⟨?_,rfl⟩;simp only[C9];simp at h1;rw[hlen] at h1;simp;omega⟩
 all_goals
   walk_at "r"
   exact⟨M,zT M,fun d' e=>by cases e;exact⟨rfl,rfl⟩⟩
end
def YD:List Str:=["word"]
theorem PH:FnScope YD ["word"] (AC J5):=⟨rfl,rfl,rfl,by decide +kernel,rfl,by decide +kernel,by decide +kernel⟩
section
local macro_rules | `(tactic| walk_at "x")=>`(tactic| first | ((with_reducible show PE _ (.Call (.Attribute _ (a0Q "get") _) ..) _);exact @lN _ _ _ _ _ _ _ _ rfl g_FORMS (by walk_at "e") (@L2.M1.mk _ _ _ _ _ _ rfl rfl rfl rfl) (by decide)))
theorem YE {f:Addr}{fd:FuncData}(F:Fun K "form_of" "form_of" J5 f fd) (n_isinstance:mg "isinstance"=none) (n_str:mg "str"=none) (g_FORMS:∃a,mg "FORMS"=some (.ref a)/\GDict w K a FR):FnOk P w K mg base CX0 1 f fd ["word"] (spD K 1 IX):=by
 refine fnD F PH fun cdv A outer s H E hr=>?_
 have hu:=hr.units
 have nd:=PH.nd
 refine⟨_,by walk_at "b1", ?_⟩
 clear nd
 rintro xs M hl ⟨d,rfl,-⟩
 cases d
 case str z=>
   walk_at "r"
   refine lO ?_
   walk_at "r"
   exact⟨M,zT M,fun d' e=>by cases e;exact⟨rfl,rfl⟩⟩
 all_goals
   walk_at "r"
   exact⟨M,zT M,fun d' e=>by cases e;exact⟨rfl,rfl⟩⟩
end
def nJ:List Str:=["sign", "part"]
theorem a6:FnScope nJ ["sign", "part"] (AC T9):=⟨rfl,rfl,rfl,by decide +kernel,rfl,by decide +kernel,by decide +kernel⟩
theorem nK {f:Addr}{fd:FuncData}(F:Fun K "fits" "fits" T9 f fd) (h_is_name:Has P w K mg base "is_name" 1 ["thing"] LG) (h_is_place:Has P w K mg base "is_place" 3 ["thing"] JV) (h_is_whole:Has P w K mg base "is_whole" 1 ["thing"] GA):FnOk P w K mg base CX0 4 f fd ["sign", "part"] (spD K 2 XS):=by
 refine fnD F a6 fun cdv A outer s H E hr=>?_
 have hu:=hr.units
 have nd:=a6.nd
 refine⟨_,by walk_at "b2", ?_⟩
 clear nd
 rintro xs M hl ⟨a,b,rfl,c,rfl,hc,hb⟩
 have hsh:zH (.str ⟨#[c]⟩)=true:=BY (by show b6V _=true;simp[b6V];omega) (by simp[a4W])
 walk_at "r"
 refine AR hsh (by decide +kernel) ?_
 rw[if_neg nft,BK]
 cases h1:((⟨#[c]⟩:Str)==a0Q "n") with
 | true=>
   walk_at "r"
   refine BC hb ?_
   exact⟨M,zT M,fun a b e=>by cases e;exact⟨by simp only[KC,h1];rfl,rfl⟩⟩
 | false=>
   walk_at "r"
   refine AR hsh (by decide +kernel) ?_
   rw[if_neg nft,BK]
   cases h2:((⟨#[c]⟩:Str)==a0Q "p") with
   | true=>
     walk_at "r"
     refine BC trivial ?_
     exact⟨M,zT M,fun a b e=>by cases e;exact⟨by simp only[KC,h1,h2];rfl,rfl⟩⟩
   | false=>
     walk_at "r"
     refine BC trivial ?_
     exact⟨M,zT M,fun a b e=>by cases e;exact⟨by simp only[KC,h1,h2];rfl,rfl⟩⟩
def WC:List Str:=["deed"]
theorem MJ:FnScope WC ["deed"] (AC GT):=⟨rfl,rfl,rfl,by decide +kernel,rfl,by decide +kernel,by decide +kernel⟩
section
local macro_rules | `(tactic| walk_at "x")=>`(tactic| first | ((with_reducible show PE _ (.Call (.Attribute _ (a0Q "startswith") _) ..) _);exact @kBm _ K _ _ _ _ _ _ _ _ _ _ _ rfl PySem.F.plainAttrs_str PySem.F.slot_str_startswith PySem.F.type_str_startswith (@UR _ K rfl) (by walk_at "e") (by walk_at "a") (by rfl) (by rfl) (by rfl) (by rfl) (by rfl)))
theorem WE {f:Addr}{fd:FuncData}(F:Fun K "names_in" "names_in" GT f fd) (h_form_of:Has P w K mg base "form_of" 1 ["word"] IX):FnOk P w K mg base CX0 2 f fd ["deed"] (spD K 1 EN):=by
 refine fnD F MJ fun cdv A outer s H E hr=>?_
 have hu:=hr.units
 have nd:=MJ.nd
 refine⟨_,by walk_at "b1", ?_⟩
 clear nd
 rintro xs M hl ⟨d,rfl,w,f,r,rfl,hf⟩
 obtain⟨fa,fs,fn,_,_⟩:=OO hf
 have hform:OM (.str w) = .str f:=by
   show aZ (FR.lookup w)=_
   rw[hf];rfl
 walk_at "r"
 refine Z0 ?_
 walk_at "r"
 refine AA (d:=.str w) (AB (j:=0) rfl) ?_
 walk_at "r"
 refine BC trivial ?_
 rw[hform]
 refine⟨l3,?_⟩
 walk_at "r"
 refine bB ?_
 rw[fn]
 cases htw:V8 w with
 | true=>
   walk_at "r"
   refine HR ?_
   rw[show E4 (a1X w::r) (some 1) (some 3)=r.take 2 from SJ _ 1 3]
   exact⟨M,zT M,fun d' e=>by cases e;refine⟨?_,rfl⟩;simp only[LK,htw];rfl⟩
 | false=>
   walk_at "r"
   refine HR ?_
   rw[show E4 (a1X w::r) (some 1) (some 2)=r.take 1 from SJ _ 1 2]
   exact⟨M,zT M,fun d' e=>by cases e;refine⟨?_,rfl⟩;simp only[LK,htw];rfl⟩
end
def PJ:List Str:=["thing", "form", "names"]
def KQ:List Str:=["sign", "part"]
def KR:List (Option Nat):=[none,none]
theorem TJ:KQ.Nodup:=by decide +kernel
theorem PK:FnScope PJ ["thing"] (AC G1):=⟨rfl,rfl,rfl,by decide +kernel,rfl,by decide +kernel,by decide +kernel⟩
section
local macro_rules | `(tactic| walk_at "cs")=>`(tactic| first | exact @GQ _ _ KQ KR (AC G1) PJ (by decide +kernel) (by decide +kernel) rfl rfl)
local macro_rules | `(tactic| walk_at "x")=>`(tactic| first | ((with_reducible show PI _ _ (.Call (.Name (a0Q "zip") _) ..) _);exact @uJ _ K _ _ _ _ _ _ _ _ rfl rfl n_zip (by walk_at "a") (by rfl) (by rfl)) | ((with_reducible show PG _ (.Tuple ..) _);exact @X3 _ K _ _ _ _ (2) rfl rfl (by walk_at "j") (by rfl) (by rfl)))
theorem YF {f:Addr}{fd:FuncData}(F:Fun K "is_deed" "is_deed" G1 f fd) (n_all:mg "all"=none) (n_isinstance:mg "isinstance"=none) (n_len:mg "len"=none) (n_tuple:mg "tuple"=none) (n_zip:mg "zip"=none) (h_fits:Has P w K mg base "fits" 4 ["sign", "part"] XS) (h_form_of:Has P w K mg base "form_of" 1 ["word"] IX) (h_names_in:Has P w K mg base "names_in" 2 ["deed"] EN):FnOk P w K mg base CX0 5 f fd ["thing"] (spD K 1 IY):=by
 refine fnD F PK fun cdv A outer s H E hr=>?_
 have hu:=hr.units
 have nd:=PK.nd
 have n0:=TJ
 refine⟨_,by walk_at "b2", ?_⟩
 clear nd n0
 rintro xs M hl ⟨d,rfl,hd⟩
 cases d
 case tuple ds=>
   have fin:∀b:Bool,AZ ds=b->∃M2:Own,M2.Sub M/\IY.post [.d (.tuple ds)] M (.d (.bool b)) M2:=fun b hb=>⟨M,zT M,fun d' e=>by cases e;exact⟨by show DS.d (.bool b) = .d (.bool (AZ ds));rw[hb],rfl⟩⟩
   walk_at "r"
   refine CO ?_
   walk_at "r"
   refine AR rfl rfl ?_
   rw[if_neg nft]
   match ds,hd,fin with
   | [],_,fin=>
     walk_at "r"
     exact fin false rfl
   | a::r,hd,fin=>
     rw[show a0Z (.int ((a::r).length:Nat)) (.int 0)=false by simp[a0Z];omega]
     walk_at "r"
     refine AA (d:=a) (AB (j:=0) rfl) ?_
     walk_at "r"
     refine BC trivial ?_
     have hnone:DJ (OM a)=true->AZ (a::r)=false:=fun h=>by
       cases a with
       | str w=>
         cases hf:FR.lookup w with
         | none=>simp only[AZ,hf]
         | some f=>simp only[OM,hf,aZ,DJ] at h;cases h
       | _=>rfl
     cases hn:DJ (OM a) with
     | true=>
       walk_at "r"
       refine ZC ?_
       rw[hn]
       walk_at "r"
       exact fin false (hnone hn)
     | false=>
       have hw:∃w f,a = .str w/\FR.lookup w=some f:=by
         cases a with
         | str w=>
           cases hf:FR.lookup w with
           | none=>simp only[OM,hf,aZ,DJ] at hn;cases hn
           | some f=>exact⟨w,f,rfl,hf⟩
         | _=>cases hn
       obtain⟨w,f,rfl,hf⟩:=hw
       obtain⟨fa,fs,fn,ft,f1⟩:=OO hf
       have hform:OM (.str w) = .str f:=by
         show aZ (FR.lookup w)=_
         rw[hf];rfl
       have hdl:AZ (.str w::r)=((r.length==f.cps.size)&&GF f r&&(!V8 w||!a0Z (r.getD 0 .none) (r.getD 1 .none))):=by simp only[AZ,hf]
       rw[hform]
       walk_at "r"
       refine ZC ?_
       walk_at "r"
       refine CO ?_
       walk_at "r"
       refine Z6 (zN fs (by decide)) ?_
       walk_at "r"
       refine AR rfl rfl ?_
       rw[if_pos rfl]
       have hcmp:a0Z (.int ((a1X w::r).length:Nat)) (.int ((f.length:Int)+1))=(r.length==f.cps.size):=by
         show(((r.length+1:Nat):Int)==((f.cps.size:Int)+1))=_
         rw[a8Z,beq_iff_eq,beq_iff_eq];omega
       rw[hcmp]
       cases hlen:(r.length==f.cps.size) with
       | false=>
         walk_at "r"
         exact fin false (by rw[hdl,hlen];rfl)
       | true=>
         have hl':r.length=f.cps.size:=eq_of_beq hlen
         have hrl:r.length<=4:=by omega
         walk_at "r"
         refine AI (O1 (CF (CF O0))) (by simp[KR]) ?_
         refine lY ?_
         walk_at "r"
         refine HR ?_
         rw[show E4 (a1X w::r) (some 1) none=r from HU _ 1]
         walk_at "r"
         refine⟨_,_,rfl,fa,by omega,?_,fun _=>true,uN,?_,?_⟩
         · unfold UJ
           rw[zX,List.length_zip]
           exact zQ (show _<=4 by omega) (by decide)
         · intro d hd' M'
           obtain⟨⟨s1,p1⟩,hm,rfl⟩:=zL.mp hd'
           have hs:s1∈BL f:=(b6X hm).1
           have hp:p1∈r:=(b6X hm).2
           obtain⟨c,hc,rfl⟩:=zL.mp hs
           have hc128:c < 128:=by
             have:=Array.all_eq_true'.mp fa c (by simpa using hc)
             simpa using this
           walk_at "r"
           refine⟨rfl,?_⟩
           walk_at "dl"
           refine⟨rfl,rfl,fun _=>?_⟩
           walk_at "r"
           refine fV ⟨c,rfl,hc128,hd.2 p1 (yV _ hp)⟩ ?_
           exact⟨rfl,rfl⟩
         · rw[gW]
           walk_at "r"
           refine fG ?_
           rw[show(((BL f).zip r).map fun p=>KC p.1 p.2).all id=GF f r by unfold GF;rw[List.all_map];rfl]
           cases hfit:GF f r with
           | false=>
             walk_at "r"
             exact fin false (by rw[hdl,hlen,hfit];rfl)
           | true=>
             walk_at "r"
             refine BC ⟨w,f,r,rfl,hf⟩ ?_
             rw[show LK (.tuple (.str w::r)) = .tuple (r.take (if V8 w then 2 else 1)) from rfl]
             cases htw:V8 w with
             | false=>
               match r,hl',hrl,hdl,hfit,fin with
               | [],hl',_,_,_,_=>exact absurd hl' (by show ¬(0=f.cps.size);omega)
               | x::r',hl',hrl,hdl,hfit,fin=>
                 walk_at "r"
                 refine CO ?_
                 walk_at "r"
                 refine AR rfl rfl ?_
                 walk_at "r"
                 exact fin true (by rw[hdl,hlen,hfit,htw];rfl)
             | true=>
               obtain⟨f2,g0,g1⟩:=ft htw
               match r,hl',hrl,hdl,hfit,fin with
               | [],hl',_,_,_,_=>exact absurd hl' (by show ¬(0=f.cps.size);omega)
               | [_],hl',_,_,_,_=>exact absurd hl' (by show ¬(1=f.cps.size);omega)
               | x::y::r',hl',hrl,hdl,hfit,fin=>
                 obtain⟨nx,ny⟩:=gX g0 g1 hfit
                 obtain⟨zx,rfl,hzx⟩:=QY nx
                 obtain⟨zy,rfl,hzy⟩:=QY ny
                 walk_at "r"
                 refine CO ?_
                 walk_at "r"
                 refine AR rfl rfl ?_
                 walk_at "r"
                 refine AA (d:=.str zx) (AB (j:=0) rfl) ?_
                 walk_at "r"
                 refine AA (d:=.str zy) (AB (j:=1) rfl) ?_
                 refine AR (AK hzx) (AK hzy) ?_
                 rw[if_pos rfl]
                 exact fin _ (by rw[hdl,hlen,hfit,htw];rfl)
 all_goals
   walk_at "r"
   exact⟨M,zT M,fun d' e=>by cases e;exact⟨rfl,rfl⟩⟩
end
def YG:List Str:=["deed"]
theorem PL:FnScope YG ["deed"] (AC J6):=⟨rfl,rfl,rfl,by decide +kernel,rfl,by decide +kernel,by decide +kernel⟩
section
local macro_rules | `(tactic| walk_at "x")=>`(tactic| first | ((with_reducible show PT _ (.Compare _ [.In] ..) _);exact @EB _ _ _ _ _ _ _ _ (@kIn _ K rfl) (by walk_at "e") (by walk_at "e") (by with_unfolding_all rfl)))
theorem YH {f:Addr}{fd:FuncData}(F:Fun K "made_by" "made_by" J6 f fd):FnOk P w K mg base CX0 1 f fd ["deed"] (spD K 1 FT):=by
 refine fnD F PL fun cdv A outer s H E hr=>?_
 have hu:=hr.units
 have nd:=PL.nd
 refine⟨_,by walk_at "b2", ?_⟩
 clear nd
 rintro xs M hl ⟨d,rfl,D,rfl,hD⟩
 rw[D.d_eq]
 walk_at "r"
 refine AA (d:=.str D.word) (AB (j:=0) rfl) ?_
 walk_at "r"
 refine AR D.word_ok (by decide +kernel) ?_
 rw[if_neg nft,BK,gY]
 cases hp:D.isPut with
 | true=>
   walk_at "r"
   refine AA (d:=.str D.fst) (AB (j:=1) rfl) ?_
   refine⟨M,zT M,fun d' e=>?_⟩
   cases e
   refine⟨?_,rfl⟩
   cases D <;> first | rfl | cases hp
 | false=>
   walk_at "r"
   refine AA (d:=.str D.word) (AB (j:=0) rfl) ?_
   walk_at "r"
   refine lQ (ys:=[a0Q "name", a0Q "split"]) ?_
   rw[vX,mB]
   cases hn:D.isNS with
   | true=>
     have h2:∃y t,D.rest = .str y::t:=by cases D <;> first | exact⟨_,_,rfl⟩ | cases hn
     obtain⟨y,t,h2⟩:=h2
     walk_at "r"
     refine AA (d:=.str y) (AB (j:=2) (by rw[h2];rfl)) ?_
     refine⟨M,zT M,fun d' e=>?_⟩
     cases e
     refine⟨?_,rfl⟩
     cases D <;> first | (cases hn;done) | (simp only[Deed.rest] at h2;injection h2 with h3 h4;injection h3 with h3;subst h3;rfl)
   | false=>
     walk_at "r"
     refine⟨M,zT M,fun d' e=>?_⟩
     cases e
     refine⟨?_,rfl⟩
     cases D <;> first | rfl | (cases hn;done) | (cases hp;done)
end
def JB:List Str:=["deed", "made"]
def H0:List Str:=["name", "made"]
def HA:List (Option Nat):=[none,some 1]
theorem MZ:H0.Nodup:=by decide +kernel
theorem JC:FnScope JB ["deed"] (AC CZ):=⟨rfl,rfl,rfl,by decide +kernel,rfl,by decide +kernel,by decide +kernel⟩
section
local macro_rules | `(tactic| walk_at "cs")=>`(tactic| first | exact @GQ _ _ H0 HA (AC CZ) JB (by decide +kernel) (by decide +kernel) rfl rfl)
theorem Q1 {f:Addr}{fd:FuncData}(F:Fun K "must_stand" "must_stand" CZ f fd) (n_tuple:mg "tuple"=none) (h_made_by:Has P w K mg base "made_by" 1 ["deed"] FT) (h_names_in:Has P w K mg base "names_in" 2 ["deed"] EN):FnOk P w K mg base CX0 3 f fd ["deed"] (spD K 1 GG):=by
 refine fnD F JC fun cdv A outer s H E hr=>?_
 have hu:=hr.units
 have nd:=JC.nd
 have n0:=MZ
 refine⟨_,by walk_at "b2", ?_⟩
 clear nd n0
 rintro xs M hl ⟨d,rfl,D,rfl,hD⟩
 have hsz:(D.names.map a1X).length < sizeLine:=by
   rw[zX];exact zQ (show D.names.length<=2 by cases D <;> simp[Deed.names]) (by decide)
 walk_at "r"
 refine BC ⟨D,rfl,hD⟩ ?_
 walk_at "r"
 refine AI (B8 0) (by simp[HA]) ?_
 refine EC ?_
 walk_at "r"
 refine BC (V9 D) ?_
 rw[OP]
 refine⟨_,rfl,hsz,fun d=>!a0Z d (FS D.d),id,?_,?_⟩
 · intro d hd M'
   obtain⟨n,hn,rfl⟩:=zL.mp hd
   walk_at "dl"
   refine⟨rfl,?_⟩
   walk_at "r"
   refine AR (AK (hD n hn)) (ZL hD) ?_
   rw[if_pos rfl]
   refine⟨_,rfl,rfl,rfl,fun _=>?_⟩
   walk_at "r"
   exact⟨rfl,rfl⟩
 · walk_at "r"
   refine IV ?_
   refine⟨M,zT M,fun d' e=>?_⟩
   cases e
   refine⟨?_,rfl⟩
   show DS.d (.tuple _) = .d (.tuple ((VD D.d).map .str))
   unfold VD
   rw[VA,b6Z,xU]
   rfl
end
def MK:List Str:=["world"]
def JD:List Str:=["name", "place", "count"]
def JE:List (Option Nat):=[none,none,none]
theorem Q2:JD.Nodup:=by decide +kernel
theorem ML:FnScope MK ["world"] (AC ES):=⟨rfl,rfl,rfl,by decide +kernel,rfl,by decide +kernel,by decide +kernel⟩
section
local macro_rules | `(tactic| walk_at "cs")=>`(tactic| first | exact @GQ _ _ JD JE (AC ES) MK (by decide +kernel) (by decide +kernel) rfl rfl)
local macro_rules | `(tactic| walk_at "x")=>`(tactic| first | ((with_reducible show PG _ (.Tuple ..) _);exact @X3 _ K _ _ _ _ (3) rfl rfl (by walk_at "j") (by rfl) (by rfl)))
theorem WF {f:Addr}{fd:FuncData}(F:Fun K "by_names" "by_names" ES f fd):FnOk P w K mg base CX0 1 f fd ["world"] (spD K 1 CJ):=by
 refine fnD F ML fun cdv A outer s H E hr=>?_
 have hu:=hr.units
 have hu1:=zQ (a2Q (show 1<=64 by decide) _) hu
 have nd:=ML.nd
 have n0:=Q2
 refine⟨_,by walk_at "b1", ?_⟩
 clear nd n0
 rintro xs M hl ⟨w,rfl,nd,hlen⟩
 have hz:w.length < sizeLine:=zP hlen (by decide)
 walk_at "r"
 refine V7 (O1 (CF (CF (CF O0)))) (by simp[JE]) ?_
 refine EC ?_
 walk_at "r"
 have ek:(w.map thD).map nm0=w.map (·.1):=lM w
 refine⟨by rw[zX];exact hz,fun _=>true,nm0,rT,by rw[SW,ek];exact nd,?_,?_⟩
 · intro d hd M'
   obtain⟨t,ht,rfl⟩:=zL.mp hd
   rw[show thD t = .tuple [.str t.1,.int t.2.1,.int t.2.2] from rfl]
   walk_at "r"
   refine⟨rfl,?_⟩
   walk_at "dl"
   refine⟨rfl,rfl,fun _=>?_⟩
   walk_at "r"
   refine⟨rfl,rfl,?_⟩
   walk_at "r"
   exact⟨rfl,rfl⟩
 · intro p hp
   rw[SW,zD]
   refine⟨_,zT _,fun w' e=>⟨p,hp,rfl,?_⟩⟩
   have e:=OT (show wD w=wD w' by simpa using e)
   subst e
   rfl
end
def EU:List Str:=["things"]
def E2:List Str:=["name", "things"]
def E3:List (Option Nat):=[none,some 0]
theorem IN:E2.Nodup:=by decide +kernel
theorem EV:FnScope EU ["things"] (AC BD):=⟨rfl,rfl,rfl,by decide +kernel,rfl,by decide +kernel,by decide +kernel⟩
section
local macro_rules | `(tactic| walk_at "cs")=>`(tactic| first | exact @GQ _ _ E2 E3 (AC BD) EU (by decide +kernel) (by decide +kernel) rfl rfl)
local macro_rules | `(tactic| walk_at "y")=>`(tactic| first | ((with_reducible show PE _ (.Subscript ..) _);exact @F3 _ _ _ _ _ _ hu1 (@pv _ 1 _ _ (by rfl) (by walk_at "lc") (by decide) (by decide)) (@pv _ 0 _ _ (by rfl) (by walk_at "lc") (by decide) (by decide)) (fun _ _=>rfl)))
theorem K3 {f:Addr}{fd:FuncData}(F:Fun K "rising_by_names" "rising_by_names" BD f fd) (n_sorted:mg "sorted"=none) (n_tuple:mg "tuple"=none):FnOk P w K mg base CX0 1 f fd ["things"] (spD K 1 B4):=by
 refine fnD F EV fun cdv A outer s H E hr=>?_
 have hu:=hr.units
 have hu1:=zQ (a2Q (show 1<=64 by decide) _) hu
 have nd:=EV.nd
 have n0:=IN
 refine⟨_,by walk_at "b1", ?_⟩
 clear nd n0
 rintro xs M hl ⟨p,ts,rfl,m,nd,h64⟩
 walk_at "r"
 refine GD (B8 0) (by simp[E3]) ?_
 refine BU ?_
 walk_at "r"
 refine V4 m (by unfold tsD;rw[zX];exact h64) fun ss hp hs=>?_
 rw[show(tsD ts).map (·.1)=ts.map (·.1) by unfold tsD;rw[zD];rfl] at hp
 have hlen:ss.length=ts.length:=by have:=hp.length_eq;simpa using this
 refine⟨_,rfl,by rw[zX,hlen];exact zP h64 (by decide),fun _=>true,RD ts,?_,?_⟩
 · rintro d hd A acc M' hA rfl
   obtain⟨s,hs',rfl⟩:=zL.mp hd
   obtain⟨t,ht,et⟩:=zL.mp (hp.mem_iff.mp hs')
   have hlook:AE ts s=some t.2:=by rw[← et];exact CS nd ht
   have hpA:p≠A:=fun e=>by rw[e] at m;rw[hA] at m;cases m
   walk_at "r"
   refine⟨rfl,?_⟩
   walk_at "dl"
   refine⟨rfl,rfl,fun _=>?_⟩
   walk_at "r"
   refine CP ?_
   walk_at "r"
   refine⟨p,tsD ts,s,pcD t.2.1 t.2.2,rfl,rfl,by rw[yH hpA];exact m,by rw[AN,hlook];rfl,?_⟩
   refine FP (yD rfl) ?_
   refine⟨?_,rfl⟩
   simp only[RD,hlook]
   rfl
 · rw[SW,RE nd hp hs]
   walk_at "r"
   refine IV ?_
   refine⟨M,zT M,fun p' ts' e m' nd'=>?_⟩
   cases e
   have e:=SV (Option.some.inj (m.symm.trans m'))
   subst e
   exact⟨rfl,rfl⟩
end
def TK:List Str:=["things", "name", "more", "place", "count"]
theorem KS:FnScope TK ["things", "name", "more"] (AC F8):=⟨rfl,rfl,rfl,by decide +kernel,rfl,by decide +kernel,by decide +kernel⟩
section
local macro_rules | `(tactic| walk_at "x")=>`(tactic| first | ((with_reducible show PS _ (.Assign [.Tuple ..] ..) _);exact @RV _ _ _ _ _ _ (by walk_at "e") (by walk_at "g") (by rfl) (by rfl) (by rfl)) | ((with_reducible show PG _ (.Tuple ..) _);exact @ZE _ K _ _ _ _ (2) rfl rfl (by walk_at "j") (by rfl) (by rfl)) | ((with_reducible show PS _ (.Assign [.Subscript ..] ..) _);exact @S4 _ _ _ _ _ _ _ _ _ hu1 (by walk_at "e") (by walk_at "e") (by walk_at "e") (by rfl)))
local macro_rules | `(tactic| walk_at "y")=>`(tactic| first | ((with_reducible show PE _ (.Subscript ..) _);exact @F3 _ _ _ _ _ _ hu1 (@pv _ 0 _ _ (by rfl) (by walk_at "lc") (by decide) (by decide)) (@pv _ 1 _ _ (by rfl) (by walk_at "lc") (by decide) (by decide)) (fun _ _=>rfl)))
theorem TL {f:Addr}{fd:FuncData}(F:Fun K "add_count" "add_count" F8 f fd):FnOk P w K mg base CX0 1 f fd ["things", "name", "more"] (spD K 3 DQ):=by
 refine fnD F KS fun cdv A outer s H E hr=>?_
 have hu:=hr.units
 have hu1:=zQ (a2Q (show 1<=64 by decide) _) hu
 have nd:=KS.nd
 refine⟨_,by walk_at "b2", ?_⟩
 clear nd
 rintro xs M hl ⟨p,ts,x,k,v,rfl,m,hlk,h64⟩
 walk_at "dl"
 refine EM ?_
 refine CP ?_
 walk_at "r"
 refine⟨p,tsD ts,x,pcD v.1 v.2,rfl,rfl,m,by rw[AN,hlk];rfl,?_⟩
 rw[show pcD v.1 v.2 = .tuple [.int v.1,.int v.2] from rfl]
 walk_at "r"
 refine CH ?_
 walk_at "r"
 refine⟨p,tsD ts,x,pcD v.1 (v.2+k),rfl,rfl,rfl,m,by unfold tsD;rw[zX];exact zP h64 (by decide),?_⟩
 refine⟨_,zT _,fun p' ts' x' k' e m'=>?_⟩
 cases e
 have e:=SV (Option.some.inj (m.symm.trans m'))
 subst e
 refine⟨rfl,?_⟩
 rw[CI]
 unfold GI
 rw[hlk]
end
def K4:List Str:=["things", "deed", "made", "name"]
theorem EW:FnScope K4 ["things", "deed"] (AC BR):=⟨rfl,rfl,rfl,by decide +kernel,rfl,by decide +kernel,by decide +kernel⟩
section
local macro_rules | `(tactic| walk_at "x")=>`(tactic| first | ((with_reducible show PE _ (.Compare _ [.In] ..) _);exact @oZ _ _ _ _ _ _ (@dP _ _ _ _ _ hu1 (by walk_at "e") (by walk_at "e")) (by with_unfolding_all rfl)))
theorem K5 {f:Addr}{fd:FuncData}(F:Fun K "refuse_undoable" "refuse_undoable" BR f fd) (h_is_deed:Has P w K mg base "is_deed" 5 ["thing"] IY) (h_made_by:Has P w K mg base "made_by" 1 ["deed"] FT) (h_names_in:Has P w K mg base "names_in" 2 ["deed"] EN):FnOk P w K mg base CX0 6 f fd ["things", "deed"] (spD K 2 B5):=by
 refine fnD F EW fun cdv A outer s H E hr=>?_
 have hu:=hr.units
 have hu1:=zQ (a2Q (show 1<=64 by decide) _) hu
 have nd:=EW.nd
 refine⟨_,by walk_at "b2", ?_⟩
 clear nd
 rintro xs M hl ⟨p,ts,D,rfl,m,hr,ha⟩
 have iD:SR D.d:=IA hr
 walk_at "r"
 refine BC (mJ hr.1) ?_
 rw[mI hr]
 walk_at "r"
 refine BC iD ?_
 walk_at "r"
 refine JT ?_
 refine EC ?_
 walk_at "r"
 refine BC (V9 D) ?_
 rw[OP]
 walk_at "r"
 refine⟨fun k ρ' M'=>M'=M/\∃x:Option DS,ρ'=[some (.loc p),some (.d D.d),some (.d (FS D.d)),x],⟨rfl,_,rfl⟩,?_,?_⟩
 · rintro k d ρ' M' hd ⟨rfl,x,rfl⟩
   obtain⟨n,hn,rfl⟩:=zL.mp (yN hd)
   have hz:AM n:=hr.1 n hn
   walk_at "r"
   refine ZH ?_
   walk_at "r"
   refine⟨p,tsD ts,n,rfl,rfl,m,?_⟩
   walk_at "r"
   refine AR (AK hz) (ZL hr.1) ?_
   rw[if_neg nft,mK]
   refine AR rfl rfl ?_
   rw[if_neg nft,bS,AN]
   have e:(((AE ts n).map fun v=>pcD v.1 v.2).isSome==decide (D.made=some n))=false:=by
     rw[b8X,GH]
     have:=CL ha n hn
     by_cases h2:D.made=some n
     · rw[decide_eq_true h2,decide_eq_false (fun q=>(this.mp q) h2)];rfl
     · rw[decide_eq_false h2,decide_eq_true (this.mpr h2)];rfl
   rw[e]
   walk_at "r"
   exact⟨rfl,_,rfl⟩
 · rintro ρ' M' ⟨rfl,x,rfl⟩
   exact⟨_,zT _,rfl,rfl⟩
end
def cP:List Str:=["things", "deed", "word", "name"]
theorem LX:FnScope cP ["things", "deed"] (AC KK):=⟨rfl,rfl,rfl,by decide +kernel,rfl,by decide +kernel,by decide +kernel⟩
section
local macro_rules | `(tactic| walk_at "x")=>`(tactic| first | ((with_reducible show PS _ (.Assign [.Tuple ..] (.Tuple ..) _) _);exact @dB _ _ (2) (3) _ _ _ _ _ _ _ _ _ _ _ rfl LX.nd rfl rfl (by decide) rfl rfl (by walk_at "a") rfl (by rfl)) | ((with_reducible show PS _ (.Assign [.Subscript ..] ..) _);exact @S4 _ _ _ _ _ _ _ _ _ hu1 (by walk_at "e") (by walk_at "e") (by walk_at "e") (by rfl)) | ((with_reducible show PS _ (.Delete ..) _);exact @kG _ _ _ _ _ _ _ (by walk_at "e") (by walk_at "e")) | ((with_reducible show PE _ (.Call (.Attribute _ (a0Q "pop") _) ..) _);exact @UC _ _ _ _ _ _ _ (by walk_at "e") (by walk_at "e") (@L2.M1.mk _ _ _ _ _ _ rfl rfl rfl rfl)))
local macro_rules | `(tactic| walk_at "y")=>`(tactic| first | ((with_reducible show PE _ (.Subscript ..) _);exact @F3 _ _ _ _ _ _ hu1 (@pv _ 0 _ _ (by rfl) (by walk_at "lc") (by decide) (by decide)) (@pv _ 3 _ _ (by rfl) (by walk_at "lc") (by decide) (by decide)) (fun _ _=>rfl)) | ((with_reducible show PE _ (.Subscript ..) _);exact @F3 _ _ _ _ _ _ hu1 (@pv _ 0 _ _ (by rfl) (by walk_at "lc") (by decide) (by decide)) (by walk_at "e") (fun _ _=>rfl)))
theorem cQ {f:Addr}{fd:FuncData}(F:Fun K "change" "change" KK f fd) (h_add_count:Has P w K mg base "add_count" 1 ["things", "name", "more"] DQ):FnOk P w K mg base CX0 2 f fd ["things", "deed"] (spD K 2 IB):=by
 refine fnD F LX fun cdv A outer s H E hr=>?_
 have hu:=hr.units
 have hu1:=zQ (a2Q (show 1<=64 by decide) _) hu
 have nd:=LX.nd
 refine⟨_,by walk_at "b2", ?_⟩
 clear nd
 rintro xs M hl ⟨p,ts,D,rfl,m,⟨nd,hlen⟩,hr,ha⟩
 have h64:ts.length < 64:=b1Q hlen
 have hst:=CL ha
 cases D with
 | put x pl k=>
   have hx:x∉ts.map (·.1):=fun q=>(hst x (by simp[Deed.names])).mp q rfl
   rw[show Deed.d (Deed.put x pl k) = .tuple [.str (a0Q "put"),.str x,.int pl,.int k] from rfl]
   walk_at "r"
   refine AA (d:=.str (a0Q "put")) (AB (j:=0) rfl) ?_
   walk_at "r"
   refine AA (d:=.str x) (AB (j:=1) rfl) ?_
   walk_at "r"
   refine⟨_,_,rfl,?_⟩
   walk_at "r"
   refine AD (t:=true) (by decide +kernel) ?_
   walk_at "r"
   refine CH ?_
   walk_at "r"
   refine AA (d:=.int pl) (AB (j:=2) rfl) ?_
   walk_at "r"
   refine AA (d:=.int k) (AB (j:=3) rfl) ?_
   walk_at "r"
   refine⟨p,tsD ts,x,pcD pl k,rfl,rfl,rfl,m,CT h64,?_⟩
   refine⟨_,zT _,fun p' ts' D' e m'=>?_⟩
   obtain⟨rfl,rfl,rfl⟩:=GJ (D:=Deed.put x pl k) m e m'
   refine⟨rfl,?_⟩
   rw[CI];rfl
 | take x=>
   obtain⟨v,hv⟩:=AT ((hst x (by simp[Deed.names])).mpr (by simp[Deed.made]))
   rw[show Deed.d (Deed.take x) = .tuple [.str (a0Q "take"),.str x] from rfl]
   walk_at "r"
   refine AA (d:=.str (a0Q "take")) (AB (j:=0) rfl) ?_
   walk_at "r"
   refine AA (d:=.str x) (AB (j:=1) rfl) ?_
   walk_at "r"
   refine⟨_,_,rfl,?_⟩
   walk_at "r"
   refine AD (t:=false) (by decide +kernel) ?_
   walk_at "r"
   refine AD (t:=true) (by decide +kernel) ?_
   walk_at "r"
   refine ZI ?_
   walk_at "r"
   refine⟨p,tsD ts,x,rfl,rfl,m,by rw[AN,hv];rfl,?_⟩
   refine⟨_,zT _,fun p' ts' D' e m'=>?_⟩
   obtain⟨rfl,rfl,rfl⟩:=GJ (D:=Deed.take x) m e m'
   refine⟨rfl,?_⟩
   rw[FU];rfl
 | move x pl=>
   obtain⟨v,hv⟩:=AT ((hst x (by simp[Deed.names])).mpr (by simp[Deed.made]))
   rw[show Deed.d (Deed.move x pl) = .tuple [.str (a0Q "move"),.str x,.int pl] from rfl]
   walk_at "r"
   refine AA (d:=.str (a0Q "move")) (AB (j:=0) rfl) ?_
   walk_at "r"
   refine AA (d:=.str x) (AB (j:=1) rfl) ?_
   walk_at "r"
   refine⟨_,_,rfl,?_⟩
   walk_at "r"
   refine AD (t:=false) (by decide +kernel) ?_
   walk_at "r"
   refine AD (t:=false) (by decide +kernel) ?_
   walk_at "r"
   refine AD (t:=true) (by decide +kernel) ?_
   walk_at "r"
   refine CH ?_
   walk_at "r"
   refine AA (d:=.int pl) (AB (j:=2) rfl) ?_
   walk_at "r"
   refine CP ?_
   walk_at "r"
   refine⟨p,tsD ts,x,pcD v.1 v.2,rfl,rfl,m,by rw[AN,hv];rfl,?_⟩
   walk_at "r"
   refine AA (ds:=[.int v.1,.int v.2]) (d:=.int v.2) (AB (j:=1) rfl) ?_
   walk_at "r"
   refine⟨p,tsD ts,x,pcD pl v.2,rfl,rfl,rfl,m,CT h64,?_⟩
   refine⟨_,zT _,fun p' ts' D' e m'=>?_⟩
   obtain⟨rfl,rfl,rfl⟩:=GJ (D:=Deed.move x pl) m e m'
   refine⟨rfl,?_⟩
   rw[CI];simp only[doT,hv]
 | count x k=>
   obtain⟨v,hv⟩:=AT ((hst x (by simp[Deed.names])).mpr (by simp[Deed.made]))
   rw[show Deed.d (Deed.count x k) = .tuple [.str (a0Q "count"),.str x,.int k] from rfl]
   walk_at "r"
   refine AA (d:=.str (a0Q "count")) (AB (j:=0) rfl) ?_
   walk_at "r"
   refine AA (d:=.str x) (AB (j:=1) rfl) ?_
   walk_at "r"
   refine⟨_,_,rfl,?_⟩
   walk_at "r"
   refine AD (t:=false) (by decide +kernel) ?_
   walk_at "r"
   refine AD (t:=false) (by decide +kernel) ?_
   walk_at "r"
   refine AD (t:=false) (by decide +kernel) ?_
   walk_at "r"
   refine AD (t:=true) (by decide +kernel) ?_
   walk_at "r"
   refine AA (d:=.int k) (AB (j:=2) rfl) ?_
   walk_at "r"
   refine OU m hv h64 ?_
   walk_at "r"
   refine⟨_,zT _,fun p' ts' D' e m'=>?_⟩
   obtain⟨rfl,rfl,rfl⟩:=GJ (D:=Deed.count x k) m e m'
   refine⟨rfl,?_⟩
   rfl
 | name x y=>
   obtain⟨v,hv⟩:=AT ((hst x (by simp[Deed.names])).mpr (by simp[Deed.made,hr.2.1.symm]))
   rw[show Deed.d (Deed.name x y) = .tuple [.str (a0Q "name"),.str x,.str y] from rfl]
   walk_at "r"
   refine AA (d:=.str (a0Q "name")) (AB (j:=0) rfl) ?_
   walk_at "r"
   refine AA (d:=.str x) (AB (j:=1) rfl) ?_
   walk_at "r"
   refine⟨_,_,rfl,?_⟩
   walk_at "r"
   refine AD (t:=false) (by decide +kernel) ?_
   walk_at "r"
   refine AD (t:=false) (by decide +kernel) ?_
   walk_at "r"
   refine AD (t:=false) (by decide +kernel) ?_
   walk_at "r"
   refine AD (t:=false) (by decide +kernel) ?_
   walk_at "r"
   refine AD (t:=true) (by decide +kernel) ?_
   walk_at "r"
   refine CH ?_
   refine ND ?_
   walk_at "r"
   refine⟨p,tsD ts,rfl,m,?_⟩
   walk_at "r"
   refine⟨tsD ts,x,pcD v.1 v.2,rfl,m,by rw[AN,hv];rfl,?_⟩
   rw[FU]
   walk_at "r"
   refine AA (d:=.str y) (AB (j:=2) rfl) ?_
   refine⟨p,tsD (E8 ts x),y,pcD v.1 v.2,rfl,rfl,rfl,zU,CT (zQ (yJ _ _) h64),?_⟩
   rw[yI]
   refine⟨_,zT _,fun p' ts' D' e m'=>?_⟩
   obtain⟨rfl,rfl,rfl⟩:=GJ (D:=Deed.name x y) m e m'
   refine⟨rfl,?_⟩
   rw[CI];simp only[doT,hv]
 | split x y pl k=>
   obtain⟨v,hv⟩:=AT ((hst x (by simp[Deed.names])).mpr (by simp[Deed.made,hr.2.1.symm]))
   rw[show Deed.d (Deed.split x y pl k) = .tuple [.str (a0Q "split"),.str x,.str y,.int pl,.int k] from rfl]
   walk_at "r"
   refine AA (d:=.str (a0Q "split")) (AB (j:=0) rfl) ?_
   walk_at "r"
   refine AA (d:=.str x) (AB (j:=1) rfl) ?_
   walk_at "r"
   refine⟨_,_,rfl,?_⟩
   walk_at "r"
   refine AD (t:=false) (by decide +kernel) ?_
   walk_at "r"
   refine AD (t:=false) (by decide +kernel) ?_
   walk_at "r"
   refine AD (t:=false) (by decide +kernel) ?_
   walk_at "r"
   refine AD (t:=false) (by decide +kernel) ?_
   walk_at "r"
   refine AD (t:=false) (by decide +kernel) ?_
   walk_at "r"
   refine AD (t:=true) (by decide +kernel) ?_
   walk_at "r"
   refine AA (d:=.int k) (AB (j:=4) rfl) ?_
   walk_at "r"
   refine OU m hv h64 ?_
   walk_at "r"
   refine CH ?_
   walk_at "r"
   refine AA (d:=.int pl) (AB (j:=3) rfl) ?_
   walk_at "r"
   refine AA (d:=.int k) (AB (j:=4) rfl) ?_
   walk_at "r"
   refine AA (d:=.str y) (AB (j:=2) rfl) ?_
   refine⟨p,tsD (GI ts x (-k)),y,pcD pl k,rfl,rfl,rfl,zU,CT (by rw[h8];exact h64),?_⟩
   rw[yI]
   refine⟨_,zT _,fun p' ts' D' e m'=>?_⟩
   obtain⟨rfl,rfl,rfl⟩:=GJ (D:=Deed.split x y pl k) m e m'
   refine⟨rfl,?_⟩
   rw[CI];rfl
 | join x y=>
   obtain⟨v,hv⟩:=AT ((hst x (by simp[Deed.names])).mpr (by simp[Deed.made]))
   obtain⟨u,hu'⟩:=AT ((hst y (by simp[Deed.names])).mpr (by simp[Deed.made]))
   rw[show Deed.d (Deed.join x y) = .tuple [.str (a0Q "join"),.str x,.str y] from rfl]
   walk_at "r"
   refine AA (d:=.str (a0Q "join")) (AB (j:=0) rfl) ?_
   walk_at "r"
   refine AA (d:=.str x) (AB (j:=1) rfl) ?_
   walk_at "r"
   refine⟨_,_,rfl,?_⟩
   walk_at "r"
   refine AD (t:=false) (by decide +kernel) ?_
   walk_at "r"
   refine AD (t:=false) (by decide +kernel) ?_
   walk_at "r"
   refine AD (t:=false) (by decide +kernel) ?_
   walk_at "r"
   refine AD (t:=false) (by decide +kernel) ?_
   walk_at "r"
   refine AD (t:=false) (by decide +kernel) ?_
   walk_at "r"
   refine AD (t:=false) (by decide +kernel) ?_
   walk_at "r"
   refine CP ?_
   walk_at "r"
   refine AA (d:=.str y) (AB (j:=2) rfl) ?_
   refine⟨p,tsD ts,y,pcD u.1 u.2,rfl,rfl,m,by rw[AN,hu'];rfl,?_⟩
   walk_at "r"
   refine AA (ds:=[.int u.1,.int u.2]) (d:=.int u.2) (AB (j:=1) rfl) ?_
   walk_at "r"
   refine OU m hv h64 ?_
   walk_at "r"
   refine ZI ?_
   walk_at "r"
   refine AA (d:=.str y) (AB (j:=2) rfl) ?_
   refine⟨p,tsD (GI ts x u.2),y,rfl,rfl,zU,by rw[AN,b8X,GH,D8,← GH,hu'];rfl,?_⟩
   rw[yI]
   refine⟨_,zT _,fun p' ts' D' e m'=>?_⟩
   obtain⟨rfl,rfl,rfl⟩:=GJ (D:=Deed.join x y) m e m'
   refine⟨rfl,?_⟩
   rw[FU];simp only[doT,hu']
end
def nL:List Str:=["world", "deed", "things"]
theorem a7:FnScope nL ["world", "deed"] (AC TB):=⟨rfl,rfl,rfl,by decide +kernel,rfl,by decide +kernel,by decide +kernel⟩
theorem nM {f:Addr}{fd:FuncData}(F:Fun K "done" "done" TB f fd) (h_by_names:Has P w K mg base "by_names" 1 ["world"] CJ) (h_change:Has P w K mg base "change" 2 ["things", "deed"] IB) (h_refuse_undoable:Has P w K mg base "refuse_undoable" 6 ["things", "deed"] B5) (h_rising_by_names:Has P w K mg base "rising_by_names" 1 ["things"] B4):FnOk P w K mg base CX0 7 f fd ["world", "deed"] (spD K 2 OS):=by
 refine fnD F a7 fun cdv A outer s H E hr=>?_
 have hu:=hr.units
 have nd:=a7.nd
 refine⟨_,by walk_at "b2", ?_⟩
 clear nd
 rintro xs M hl ⟨w,D,rfl,hg⟩
 obtain⟨n1,n2⟩:=LO hg
 obtain⟨hc,hr,ha⟩:=hg
 walk_at "r"
 refine FH hc fun p hp=>?_
 walk_at "r"
 refine ME zU hr ha ?_
 walk_at "r"
 refine VG zU hc hr ha ?_
 rw[yI]
 walk_at "r"
 refine MD zU n1 n2 ?_
 refine⟨M,(zT M).put hp,fun w' D' e=>?_⟩
 obtain⟨rfl,rfl⟩:=IC e
 exact⟨rfl,rfl⟩
def TM:List Str:=["world", "deed", "things", "word", "name"]
theorem GU:FnScope TM ["world", "deed"] (AC F9):=⟨rfl,rfl,rfl,by decide +kernel,rfl,by decide +kernel,by decide +kernel⟩
section
local macro_rules | `(tactic| walk_at "x")=>`(tactic| first | ((with_reducible show PS _ (.Assign [.Tuple ..] (.Tuple ..) _) _);exact @dB _ _ (3) (4) _ _ _ _ _ _ _ _ _ _ _ rfl GU.nd rfl rfl (by decide) rfl rfl (by walk_at "a") rfl (by rfl)))
local macro_rules | `(tactic| walk_at "y")=>`(tactic| first | ((with_reducible show PE _ (.Subscript ..) _);exact @F3 _ _ _ _ _ _ hu1 (@pv _ 2 _ _ (by rfl) (by walk_at "lc") (by decide) (by decide)) (@pv _ 4 _ _ (by rfl) (by walk_at "lc") (by decide) (by decide)) (fun _ _=>rfl)) | ((with_reducible show PE _ (.Subscript ..) _);exact @F3 _ _ _ _ _ _ hu1 (@pv _ 2 _ _ (by rfl) (by walk_at "lc") (by decide) (by decide)) (by walk_at "e") (fun _ _=>rfl)))
theorem TN {f:Addr}{fd:FuncData}(F:Fun K "back_deed" "back_deed" F9 f fd) (h_by_names:Has P w K mg base "by_names" 1 ["world"] CJ) (h_refuse_undoable:Has P w K mg base "refuse_undoable" 6 ["things", "deed"] B5):FnOk P w K mg base CX0 7 f fd ["world", "deed"] (spD K 2 DU):=by
 refine fnD F GU fun cdv A outer s H E hr=>?_
 have hu:=hr.units
 have hu1:=zQ (a2Q (show 1<=64 by decide) _) hu
 have nd:=GU.nd
 refine⟨_,by walk_at "b2", ?_⟩
 clear nd
 rintro xs M hl ⟨w,D,rfl,hg⟩
 obtain⟨hc,hr,ha⟩:=hg
 have hst:=CL ha
 walk_at "r"
 refine FH hc fun p hp=>?_
 walk_at "r"
 refine ME zU hr ha ?_
 cases D with
 | put x pl k=>
   rw[show Deed.d (Deed.put x pl k) = .tuple [.str (a0Q "put"),.str x,.int pl,.int k] from rfl]
   walk_at "r"
   refine AA (d:=.str (a0Q "put")) (AB (j:=0) rfl) ?_
   walk_at "r"
   refine AA (d:=.str x) (AB (j:=1) rfl) ?_
   walk_at "r"
   refine⟨_,_,rfl,?_⟩
   walk_at "r"
   refine AD (t:=true) (by decide +kernel) ?_
   walk_at "r"
   refine⟨M,(zT M).put hp,fun w' D' e=>?_⟩
   obtain⟨rfl,rfl⟩:=IC (D:=Deed.put x pl k) e
   exact⟨rfl,rfl⟩
 | take x=>
   obtain⟨v,hv⟩:=AT ((hst x (by simp[Deed.names])).mpr (by simp[Deed.made]))
   rw[show Deed.d (Deed.take x) = .tuple [.str (a0Q "take"),.str x] from rfl]
   walk_at "r"
   refine AA (d:=.str (a0Q "take")) (AB (j:=0) rfl) ?_
   walk_at "r"
   refine AA (d:=.str x) (AB (j:=1) rfl) ?_
   walk_at "r"
   refine⟨_,_,rfl,?_⟩
   walk_at "r"
   refine AD (t:=false) (by decide +kernel) ?_
   walk_at "r"
   refine AD (t:=true) (by decide +kernel) ?_
   walk_at "r"
   refine CP ?_
   walk_at "r"
   refine⟨p,tsD w,x,pcD v.1 v.2,rfl,rfl,zU,by rw[AN,hv];rfl,?_⟩
   refine FP (yD rfl) ?_
   refine⟨M,(zT M).put hp,fun w' D' e=>?_⟩
   obtain⟨rfl,rfl⟩:=IC (D:=Deed.take x) e
   exact⟨by simp only[BG,hv];rfl,rfl⟩
 | move x pl=>
   obtain⟨v,hv⟩:=AT ((hst x (by simp[Deed.names])).mpr (by simp[Deed.made]))
   rw[show Deed.d (Deed.move x pl) = .tuple [.str (a0Q "move"),.str x,.int pl] from rfl]
   walk_at "r"
   refine AA (d:=.str (a0Q "move")) (AB (j:=0) rfl) ?_
   walk_at "r"
   refine AA (d:=.str x) (AB (j:=1) rfl) ?_
   walk_at "r"
   refine⟨_,_,rfl,?_⟩
   walk_at "r"
   refine AD (t:=false) (by decide +kernel) ?_
   walk_at "r"
   refine AD (t:=false) (by decide +kernel) ?_
   walk_at "r"
   refine AD (t:=true) (by decide +kernel) ?_
   walk_at "r"
   refine CP ?_
   walk_at "r"
   refine⟨p,tsD w,x,pcD v.1 v.2,rfl,rfl,zU,by rw[AN,hv];rfl,?_⟩
   walk_at "r"
   refine AA (ds:=[.int v.1,.int v.2]) (d:=.int v.1) (AB (j:=0) rfl) ?_
   walk_at "r"
   refine⟨M,(zT M).put hp,fun w' D' e=>?_⟩
   obtain⟨rfl,rfl⟩:=IC (D:=Deed.move x pl) e
   exact⟨by simp only[BG,hv];rfl,rfl⟩
 | count x k=>
   rw[show Deed.d (Deed.count x k) = .tuple [.str (a0Q "count"),.str x,.int k] from rfl]
   walk_at "r"
   refine AA (d:=.str (a0Q "count")) (AB (j:=0) rfl) ?_
   walk_at "r"
   refine AA (d:=.str x) (AB (j:=1) rfl) ?_
   walk_at "r"
   refine⟨_,_,rfl,?_⟩
   walk_at "r"
   refine AD (t:=false) (by decide +kernel) ?_
   walk_at "r"
   refine AD (t:=false) (by decide +kernel) ?_
   walk_at "r"
   refine AD (t:=false) (by decide +kernel) ?_
   walk_at "r"
   refine AD (t:=true) (by decide +kernel) ?_
   walk_at "r"
   refine AA (d:=.int k) (AB (j:=2) rfl) ?_
   walk_at "r"
   refine⟨M,(zT M).put hp,fun w' D' e=>?_⟩
   obtain⟨rfl,rfl⟩:=IC (D:=Deed.count x k) e
   exact⟨rfl,rfl⟩
 | name x y=>
   rw[show Deed.d (Deed.name x y) = .tuple [.str (a0Q "name"),.str x,.str y] from rfl]
   walk_at "r"
   refine AA (d:=.str (a0Q "name")) (AB (j:=0) rfl) ?_
   walk_at "r"
   refine AA (d:=.str x) (AB (j:=1) rfl) ?_
   walk_at "r"
   refine⟨_,_,rfl,?_⟩
   walk_at "r"
   refine AD (t:=false) (by decide +kernel) ?_
   walk_at "r"
   refine AD (t:=false) (by decide +kernel) ?_
   walk_at "r"
   refine AD (t:=false) (by decide +kernel) ?_
   walk_at "r"
   refine AD (t:=false) (by decide +kernel) ?_
   walk_at "r"
   refine AD (t:=true) (by decide +kernel) ?_
   walk_at "r"
   refine AA (d:=.str y) (AB (j:=2) rfl) ?_
   walk_at "r"
   refine⟨M,(zT M).put hp,fun w' D' e=>?_⟩
   obtain⟨rfl,rfl⟩:=IC (D:=Deed.name x y) e
   exact⟨rfl,rfl⟩
 | split x y pl k=>
   rw[show Deed.d (Deed.split x y pl k) = .tuple [.str (a0Q "split"),.str x,.str y,.int pl,.int k] from rfl]
   walk_at "r"
   refine AA (d:=.str (a0Q "split")) (AB (j:=0) rfl) ?_
   walk_at "r"
   refine AA (d:=.str x) (AB (j:=1) rfl) ?_
   walk_at "r"
   refine⟨_,_,rfl,?_⟩
   walk_at "r"
   refine AD (t:=false) (by decide +kernel) ?_
   walk_at "r"
   refine AD (t:=false) (by decide +kernel) ?_
   walk_at "r"
   refine AD (t:=false) (by decide +kernel) ?_
   walk_at "r"
   refine AD (t:=false) (by decide +kernel) ?_
   walk_at "r"
   refine AD (t:=false) (by decide +kernel) ?_
   walk_at "r"
   refine AD (t:=true) (by decide +kernel) ?_
   walk_at "r"
   refine AA (d:=.str y) (AB (j:=2) rfl) ?_
   walk_at "r"
   refine⟨M,(zT M).put hp,fun w' D' e=>?_⟩
   obtain⟨rfl,rfl⟩:=IC (D:=Deed.split x y pl k) e
   exact⟨rfl,rfl⟩
 | join x y=>
   obtain⟨u,hu'⟩:=AT ((hst y (by simp[Deed.names])).mpr (by simp[Deed.made]))
   rw[show Deed.d (Deed.join x y) = .tuple [.str (a0Q "join"),.str x,.str y] from rfl]
   walk_at "r"
   refine AA (d:=.str (a0Q "join")) (AB (j:=0) rfl) ?_
   walk_at "r"
   refine AA (d:=.str x) (AB (j:=1) rfl) ?_
   walk_at "r"
   refine⟨_,_,rfl,?_⟩
   walk_at "r"
   refine AD (t:=false) (by decide +kernel) ?_
   walk_at "r"
   refine AD (t:=false) (by decide +kernel) ?_
   walk_at "r"
   refine AD (t:=false) (by decide +kernel) ?_
   walk_at "r"
   refine AD (t:=false) (by decide +kernel) ?_
   walk_at "r"
   refine AD (t:=false) (by decide +kernel) ?_
   walk_at "r"
   refine AD (t:=false) (by decide +kernel) ?_
   walk_at "r"
   refine AA (d:=.str y) (AB (j:=2) rfl) ?_
   walk_at "r"
   refine CP ?_
   walk_at "r"
   refine AA (d:=.str y) (AB (j:=2) rfl) ?_
   refine⟨p,tsD w,y,pcD u.1 u.2,rfl,rfl,zU,by rw[AN,hu'];rfl,?_⟩
   refine FP (yD rfl) ?_
   refine⟨M,(zT M).put hp,fun w' D' e=>?_⟩
   obtain⟨rfl,rfl⟩:=IC (D:=Deed.join x y) e
   exact⟨by simp only[BG,hu'];rfl,rfl⟩
end
def cR:List Str:=["world", "row", "here", "back", "number", "deed"]
theorem RQ:FnScope cR ["world", "row"] (AC KL):=⟨rfl,rfl,rfl,by decide +kernel,rfl,by decide +kernel,by decide +kernel⟩
section
local macro_rules | `(tactic| walk_at "x")=>`(tactic| first | ((with_reducible show PI _ _ (.Call (.Name (a0Q "enumerate") _) ..) _);exact @sN _ K _ _ _ _ _ _ _ rfl rfl n_enumerate (by walk_at "a") (by rfl)) | ((with_reducible show PG _ (.Tuple ..) _);exact @X3 _ K _ _ _ _ (2) rfl rfl (by walk_at "j") (by rfl) (by rfl)) | ((with_reducible show PS _ (.Try ..) _);exact @uT _ _ _ _ _ _ (fun _ _ h=>h) (by walk_at "q")))
theorem cS {f:Addr}{fd:FuncData}(F:Fun K "walked" "walked" KL f fd) (n_enumerate:mg "enumerate"=none) (h_back_deed:Has P w K mg base "back_deed" 7 ["world", "deed"] DU) (h_by_names:Has P w K mg base "by_names" 1 ["world"] CJ) (h_done:Has P w K mg base "done" 7 ["world", "deed"] OS) (h_rising_by_names:Has P w K mg base "rising_by_names" 1 ["things"] B4):FnOk P w K mg base CX0 8 f fd ["world", "row"] (spD K 2 IM):=by
 refine fnD F RQ fun cdv A outer s H E hr=>?_
 have hu:=hr.units
 have nd:=RQ.nd
 refine⟨_,by walk_at "b2", ?_⟩
 clear nd
 rintro xs M hl ⟨w,Ds,rfl,hP⟩
 have hw:=hP.fine
 have hlen:=hP.few
 unfold K2
 walk_at "r"
 refine FH ⟨hw.1.nodup,by omega⟩ fun p hp=>?_
 walk_at "r"
 refine MD zU hw.1.nodup (by omega) ?_
 rw[RA hw.1]
 walk_at "r"
 refine N9 ?_
 walk_at "r"
 intro A hA
 have hpA:p≠A:=by rintro rfl;rw[zU] at hA;cases hA
 walk_at "wks"
 refine GB (fun ρ1 M1=>M1=(M.put p (tsO w)).put A (.l (bkL w Ds Ds.length))/\∃(x1 x2:Option DS),ρ1=[some (.d (wD w)),some (.d (.tuple (Ds.map Deed.d))),some (.d (wD (wsF w Ds Ds.length))),some (.loc A),x1,x2]) ?_ ?_
 · refine JT ?_
   refine jF ?_
   walk_at "r"
   have hle:(EQ (Ds.map Deed.d)).length=Ds.length:=by unfold EQ;rw[zX,b7V,zX]
   refine⟨fun k ρ1 M1=>k<=Ds.length/\M1=(M.put p (tsO w)).put A (.l (bkL w Ds k))/\∃(x1 x2:Option DS),ρ1=[some (.d (wD w)),some (.d (.tuple (Ds.map Deed.d))),some (.d (wD (wsF w Ds k))),some (.loc A),x1,x2],⟨xT _,rfl,_,_,rfl⟩,?_,?_⟩
   · rintro k d ρ1 M1 hd ⟨hk,rfl,x1,x2,rfl⟩
     have hkl:k < Ds.length:=by rw[← hle];exact(yT.mp hd).1
     have hD:Ds[k]?=some Ds[k]:=zV hkl
     obtain rfl:d = .tuple [.int (k:Nat),(Ds[k]).d]:=by
       unfold EQ at hd
       rw[zF,List.getElem?_zipIdx,zF,hD] at hd
       simpa using hd.symm
     obtain⟨f1,f2,f3⟩:=J2 hP.book hw hlen hk
     have hg:=f3 _ hD
     walk_at "r"
     refine Z0 ?_
     walk_at "dl"
     refine⟨SA zU,?_⟩
     walk_at "r"
     refine bR hg ?_
     walk_at "r"
     refine LC zU (by rw[mL];exact zP (show k < 60 by omega) (by decide)) ?_
     walk_at "r"
     refine bQ hg ?_
     refine⟨by omega,?_,some (.d (.int (k:Nat))),some (.d (Ds[k]).d),?_⟩
     · rw[yI,i3]
       congr 3
       simp only[bkF,hD]
     · rw[ZO hD]
       rfl
   · rintro ρ1 M1 ⟨hk,h⟩
     rw[hle] at h
     exact h
 · rintro ρ1 M1 ⟨rfl,x1,x2,rfl⟩
   refine aQ (i:=3) (a:=A) rfl zU ?_
   rw[yG hA]
   walk_at "r"
   refine⟨M,(zT M).put hp,fun w' Ds' e=>?_⟩
   obtain⟨rfl,rfl⟩:=ZZ e
   refine⟨?_,rfl⟩
   rw[show wsF w Ds Ds.length=D9 w Ds by unfold wsF;rw[a3W]]
end
def nN:List Str:=["world", "row"]
theorem a8:FnScope nN ["world", "row"] (AC TC):=⟨rfl,rfl,rfl,by decide +kernel,rfl,by decide +kernel,by decide +kernel⟩
theorem nO {f:Addr}{fd:FuncData}(F:Fun K "gone" "gone" TC f fd) (h_walked:Has P w K mg base "walked" 8 ["world", "row"] IM):FnOk P w K mg base CX0 9 f fd ["world", "row"] (spD K 2 P9):=by
 refine fnD F a8 fun cdv A outer s H E hr=>?_
 have hu:=hr.units
 have nd:=a8.nd
 refine⟨_,by walk_at "b1", ?_⟩
 clear nd
 rintro xs M hl ⟨w,Ds,rfl,hP⟩
 unfold K2
 walk_at "r"
 refine W4 hP ?_
 walk_at "r"
 refine AA (d:=wD (D9 w Ds)) rfl ?_
 refine⟨M,zT M,fun w' Ds' e=>?_⟩
 obtain⟨rfl,rfl⟩:=ZZ e
 exact⟨rfl,rfl⟩
def LY:List Str:=["book", "made"]
def MM:List Str:=["deed"]
def MN:List (Option Nat):=[none]
theorem WG:MM.Nodup:=by decide +kernel
def MP:List Str:=["number", "name"]
def MQ:List (Option Nat):=[none,none]
theorem WH:MP.Nodup:=by decide +kernel
theorem RR:FnScope LY ["book"] (AC G2):=⟨rfl,rfl,rfl,by decide +kernel,rfl,by decide +kernel,by decide +kernel⟩
section
local macro_rules | `(tactic| walk_at "cs")=>`(tactic| first | exact @GQ _ _ MM MN (AC G2) LY (by decide +kernel) (by decide +kernel) rfl rfl | exact @GQ _ _ MP MQ (AC G2) LY (by decide +kernel) (by decide +kernel) rfl rfl)
local macro_rules | `(tactic| walk_at "x")=>`(tactic| first | ((with_reducible show PI _ _ (.Call (.Name (a0Q "enumerate") _) ..) _);exact @uR _ K _ _ _ _ _ _ _ rfl rfl n_enumerate (by walk_at "a") (by rfl)) | ((with_reducible show PG _ (.Tuple ..) _);exact @X3 _ K _ _ _ _ (2) rfl rfl (by walk_at "j") (by rfl) (by rfl)))
theorem cT {f:Addr}{fd:FuncData}(F:Fun K "makers" "makers" G2 f fd) (n_enumerate:mg "enumerate"=none) (h_deeds_of:Has P w K mg base "deeds_of" 1 ["book"] EF) (h_made_by:Has P w K mg base "made_by" 1 ["deed"] FT):FnOk P w K mg base CX0 2 f fd ["book"] (spD K 1 II):=by
 refine fnD F RR fun cdv A outer s H E hr=>?_
 have hu:=hr.units
 have hu1:=zQ (a2Q (show 1<=64 by decide) _) hu
 have nd:=RR.nd
 have n0:=WG
 have n1:=WH
 refine⟨_,by walk_at "b2", ?_⟩
 clear nd n0 n1
 rintro xs M hl ⟨w,ls,rfl,hg⟩
 have hrl:∀D∈dsL ls,D.real:=fun D hD=>by
   obtain⟨l,h1,rfl⟩:=zL.mp hD
   exact hg.real l h1
 have hsz:ls.length < sizeLine:=zQ hg.few (by decide)
 walk_at "r"
 refine AI (B8 0) (by simp[MN]) ?_
 refine EC ?_
 walk_at "r"
 refine KI hg.few ?_
 refine⟨_,rfl,by rw[zX,zX];exact hsz,fun _=>true,FS,?_,?_⟩
 · intro d hd M'
   obtain⟨D,hD,rfl⟩:=zL.mp hd
   walk_at "dl"
   refine⟨rfl,?_⟩
   walk_at "dl"
   refine⟨rfl,rfl,fun _=>?_⟩
   walk_at "r"
   refine BC (IA (hrl D hD)) ?_
   exact⟨rfl,rfl⟩
 · rw[SW,zD]
   walk_at "r"
   refine V7 (O1 (CF (CF O0))) (by simp[MQ]) ?_
   refine n8 ?_
   walk_at "r"
   have emk:(((EQ ((dsL ls).map (FS∘Deed.d))).filter cEn).map fun d=>(fEn d,wEn d))=mkL (dsL ls) 0:=ZW (dsL ls) 0
   refine⟨by unfold EQ;rw[zX,b7V,zX,zX];exact hsz,cEn,fEn,wEn,?_,?_,fun p hp=>?_⟩
   · have:=RL (dsL ls) 0 hg.fresh.one
     rw[← emk,zD] at this
     exact this
   · intro d hd M'
     obtain⟨q,hq,rfl⟩:=zL.mp hd
     obtain⟨D,hD,eD⟩:∃D∈dsL ls,FS D.d=q.1:=by
       obtain⟨D,a,b⟩:=zL.mp (List.fst_mem_of_mem_zipIdx hq)
       exact⟨D,a,b⟩
     rw[← eD]
     rcases (show FS D.d = .none∨∃x,FS D.d = .str x by rw[NF];cases D.made with | none=>exact .inl rfl | some x=>exact .inr ⟨x,rfl⟩) with e | ⟨x,e⟩ <;> rw[e]
     · walk_at "r"
       refine⟨rfl,?_⟩
       walk_at "r"
       refine UT ?_
       exact⟨_,rfl,rfl,rfl,fun h=>absurd h nft⟩
     · walk_at "r"
       refine⟨rfl,?_⟩
       walk_at "r"
       refine UT ?_
       refine⟨_,rfl,rfl,rfl,fun _=>?_⟩
       walk_at "r"
       refine⟨rfl,rfl,?_⟩
       walk_at "r"
       exact⟨rfl,rfl⟩
   · rw[emk]
     refine⟨_,zT _,fun w' ls' e=>?_⟩
     simp only[List.cons.injEq,DS.d.injEq,and_true] at e
     have e:=DC e
     subst e
     exact⟨p,hp,rfl,rfl⟩
end
def MR:List Str:=["book"]
def JF:List Str:=["hand", "deed"]
def JG:List (Option Nat):=[none,none]
theorem Q3:JF.Nodup:=by decide +kernel
theorem MS:FnScope MR ["book"] (AC ET):=⟨rfl,rfl,rfl,by decide +kernel,rfl,by decide +kernel,by decide +kernel⟩
section
local macro_rules | `(tactic| walk_at "cs")=>`(tactic| first | exact @GQ _ _ JF JG (AC ET) MR (by decide +kernel) (by decide +kernel) rfl rfl)
local macro_rules | `(tactic| walk_at "x")=>`(tactic| first | ((with_reducible show PG _ (.Tuple ..) _);exact @X3 _ K _ _ _ _ (2) rfl rfl (by walk_at "j") (by rfl) (by rfl)))
theorem WI {f:Addr}{fd:FuncData}(F:Fun K "deeds_of" "deeds_of" ET f fd) (n_tuple:mg "tuple"=none):FnOk P w K mg base CX0 1 f fd ["book"] (spD K 1 EF):=by
 refine fnD F MS fun cdv A outer s H E hr=>?_
 have hu:=hr.units
 have nd:=MS.nd
 have n0:=Q3
 refine⟨_,by walk_at "b1", ?_⟩
 clear nd n0
 rintro xs M hl ⟨w,ls,rfl,hg⟩
 walk_at "r"
 refine AI (O1 (CF (CF O0))) (by simp[JG]) ?_
 refine EC ?_
 walk_at "r"
 refine AA (ds:=[wD w,AO ls]) (d:=AO ls) rfl ?_
 walk_at "r"
 refine⟨by rw[zX];exact zQ hg (by decide),fun _=>true,fun d=>match d with | .tuple [_,b]=>b | d=>d,?_,?_⟩
 · intro d hd M'
   obtain⟨l,hl,rfl⟩:=zL.mp hd
   rw[show BN l = .tuple [.str l.1,l.2.d] from rfl]
   walk_at "r"
   refine⟨rfl,?_⟩
   walk_at "dl"
   refine⟨rfl,rfl,fun _=>?_⟩
   walk_at "r"
   exact⟨rfl,rfl⟩
 · walk_at "r"
   refine IV ?_
   refine⟨M,zT M,fun w' ls' e=>?_⟩
   simp only[List.cons.injEq,DS.d.injEq,and_true] at e
   have e:=DC e
   subst e
   refine⟨?_,rfl⟩
   rw[SW,zD,zD]
   rfl
end
def Q4:List Str:=["book"]
theorem JH:FnScope Q4 ["book"] (AC ED):=⟨rfl,rfl,rfl,by decide +kernel,rfl,by decide +kernel,by decide +kernel⟩
theorem Q5 {f:Addr}{fd:FuncData}(F:Fun K "book_world" "book_world" ED f fd) (h_deeds_of:Has P w K mg base "deeds_of" 1 ["book"] EF) (h_gone:Has P w K mg base "gone" 9 ["world", "row"] P9):FnOk P w K mg base CX0 10 f fd ["book"] (spD K 1 CY):=by
 refine fnD F JH fun cdv A outer s H E hr=>?_
 have hu:=hr.units
 have nd:=JH.nd
 refine⟨_,by walk_at "b1", ?_⟩
 clear nd
 rintro xs M hl ⟨w,ls,rfl,hP,hl50⟩
 walk_at "r"
 refine AA (ds:=[wD w,AO ls]) (d:=wD w) rfl ?_
 walk_at "r"
 refine KI hl50 ?_
 walk_at "r"
 refine cM hP ?_
 refine⟨M,zT M,fun w' ls' e=>?_⟩
 simp only[List.cons.injEq,DS.d.injEq,and_true] at e
 obtain⟨rfl,rfl⟩:=YA e
 exact⟨rfl,rfl⟩
def TQ:List Str:=["book", "thing"]
theorem KU:FnScope TQ ["book", "thing"] (AC FA):=⟨rfl,rfl,rfl,by decide +kernel,rfl,by decide +kernel,by decide +kernel⟩
theorem TR {f:Addr}{fd:FuncData}(F:Fun K "is_number" "is_number" FA f fd) (n_len:mg "len"=none) (h_is_within:Has P w K mg base "is_within" 2 ["thing", "low", "high"] CK):FnOk P w K mg base CX0 3 f fd ["book", "thing"] (spD K 2 DY):=by
 refine fnD F KU fun cdv A outer s H E hr=>?_
 have hu:=hr.units
 have nd:=KU.nd
 refine⟨_,by walk_at "b1", ?_⟩
 clear nd
 rintro xs M hl ⟨w,ls,d,rfl⟩
 walk_at "r"
 refine AA (ds:=[wD w,AO ls]) (d:=AO ls) rfl ?_
 walk_at "r"
 refine CO ?_
 walk_at "r"
 refine MB ?_
 refine⟨M,zT M,fun w' ls' d' e=>?_⟩
 simp only[List.cons.injEq,DS.d.injEq,and_true] at e
 obtain⟨e1,rfl⟩:=e
 have e1:=DC e1
 subst e1
 rw[zX]
 exact⟨rfl,rfl⟩
theorem WJ {f C S:Addr}{fd:FuncData}(F:Fun K "__init__" "NoLine.__init__" BQ f fd) (c:XCls K C S (.ref f)) (cs:XSet K C "line"):FnOk P w K mg base CX0 1 f fd ["self", "line"] (P3 C "line"):=
 mY F ⟨rfl,rfl,rfl,by decide +kernel,rfl,by decide +kernel,by decide +kernel⟩ rfl c cs (by decide) (fun _=>rfl) (fun X hN hS=>pv 0 (by rw[hN];rfl) (by rw[hS];exact Or.inl rfl)) (fun X hN hS=>pv 1 (by rw[hN];rfl) (by rw[hS];exact Or.inl rfl))
def WK:List Str:=["book", "number", "made"]
def PM:List Str:=["name", "made"]
def PN:List (Option Nat):=[none,some 2]
theorem YI:PM.Nodup:=by decide +kernel
theorem WL:FnScope WK ["book", "number"] (AC KM):=⟨rfl,rfl,rfl,by decide +kernel,rfl,by decide +kernel,by decide +kernel⟩
section
local macro_rules | `(tactic| walk_at "cs")=>`(tactic| first | exact @GQ _ _ PM PN (AC KM) WK (by decide +kernel) (by decide +kernel) rfl rfl)
local macro_rules | `(tactic| walk_at "x")=>`(tactic| first | ((with_reducible show PT _ (.Compare _ [.In] ..) _);exact @p6 _ _ _ _ _ _ (@dP _ _ _ _ _ hu1 (by walk_at "e") (by walk_at "e")) (by with_unfolding_all rfl)))
local macro_rules | `(tactic| walk_at "y")=>`(tactic| first | ((with_reducible show PE _ (.Call (.Name (a0Q "sorted") _) ..) _);exact @CB _ _ _ _ _ _ _ _ _ (@rY _ K rfl rfl) (by rfl) n_sorted PyProof.Rows.boot_sorted (by walk_at "a") (by decide) (by decide) (by rfl) (by rfl)) | ((with_reducible show PE _ (.Subscript ..) _);exact @F3 _ _ _ _ _ _ hu1 (@pv _ 1 _ _ (by rfl) (by walk_at "lc") (by decide) (by decide)) (@pv _ 0 _ _ (by rfl) (by walk_at "lc") (by decide) (by decide)) (fun _ _=>rfl)))
theorem jO {f:Addr}{fd:FuncData}{c_S c_NoLine:Addr}(F:Fun K "needs" "needs" KM f fd) (n_sorted:mg "sorted"=none) (n_tuple:mg "tuple"=none) (r_NoLine:HasR P w K mg base "NoLine" "line" c_NoLine c_S) (h_is_number:Has P w K mg base "is_number" 3 ["book", "thing"] DY) (h_makers:Has P w K mg base "makers" 2 ["book"] II) (h_must_stand:Has P w K mg base "must_stand" 3 ["deed"] GG):FnOk P w K mg base (CXE P w) 4 f fd ["book", "number"] (spX K 2 (GN c_NoLine)):=by
 refine w6 F WL fun cdv A outer s H E hr=>?_
 have hu:=hr.units
 have hu1:=zQ (a2Q (show 1<=64 by decide) _) hu
 have nd:=WL.nd
 have n0:=YI
 refine⟨_,by walk_at "b2", ?_⟩
 clear nd n0
 rintro xs M hl ⟨w,ls,d,rfl,hg⟩
 walk_at "r"
 refine Y4 ?_
 cases hn:K1 ls.length d with
 | false=>
   walk_at "r"
   refine⟨M,zT M,fun w' ls' d' e=>?_⟩
   simp only[List.cons.injEq,DS.d.injEq,and_true] at e
   obtain⟨e1,rfl⟩:=e
   obtain rfl:=DC e1
   exact⟨hn,rfl,rfl,rfl⟩
 | true=>
 obtain⟨k,rfl,hk⟩:=nB hn
 obtain⟨l,hlk,hlm,hll,hld⟩:=NI hk
 have hr:=hg.real l hlm
 walk_at "r"
 refine VU hg fun p hp=>?_
 walk_at "r"
 refine GD (B8 0) (by simp[PN]) ?_
 refine EC ?_
 walk_at "r"
 refine AA (ds:=[wD w,AO ls]) (d:=AO ls) rfl ?_
 walk_at "r"
 refine AA (ds:=ls.map BN) (AB hll) ?_
 walk_at "r"
 refine AA (ds:=[.str l.1,l.2.d]) (d:=l.2.d) rfl ?_
 walk_at "r"
 refine BC (IA hr) ?_
 rw[nA]
 have hml:(l.2.must).length<=2:=zN (yJ _ _) (by cases l.2 <;> simp[Deed.names])
 refine⟨_,rfl,by rw[zX];exact zQ hml (by decide),cMk (dsL ls),fMk (dsL ls),?_,?_⟩
 · rintro d hd A acc M' hA rfl
   obtain⟨n,hn,rfl⟩:=zL.mp hd
   have hpA:p≠A:=by rintro rfl;rw[zU] at hA;cases hA
   walk_at "dl"
   refine⟨rfl,?_⟩
   walk_at "r"
   refine ZH ?_
   walk_at "r"
   refine⟨p,mkL (dsL ls) 0,n,rfl,rfl,by rw[yH hpA];exact zU,?_⟩
   refine⟨_,rfl,rfl,rfl,fun hc=>?_⟩
   obtain⟨v,hv⟩:=xY.mp (show(AU (mkL (dsL ls) 0) n).isSome=true from hc)
   refine CP ?_
   walk_at "r"
   refine⟨p,mkL (dsL ls) 0,n,v,rfl,rfl,by rw[yH hpA];exact zU,hv,?_,rfl⟩
   show DS.d v = .d ((AU (mkL (dsL ls) 0) n).getD .none)
   rw[hv];rfl
 · rw[cG hg.fresh]
   walk_at "r"
   refine i7 (by rw[zX];exact zQ (zN (yJ _ _) hml) (by decide)) fun ss hp2 hs=>?_
   walk_at "r"
   refine IV ?_
   refine⟨M,(zT M).put hp,fun w' ls' d' e=>?_⟩
   simp only[List.cons.injEq,DS.d.injEq,and_true] at e
   obtain⟨e1,rfl⟩:=e
   have e1:=DC e1
   subst e1
   rw[j4 hg.fresh hld (Y6 hr) rfl hp2 hs]
   exact⟨k,rfl,hk,rfl,rfl⟩
end
def Q6:List Str:=["_law_cell"]
theorem JI:FnScope Q6 ["_law_cell"] (AC EE):=⟨rfl,rfl,rfl,by decide +kernel,rfl,by decide +kernel,by decide +kernel⟩
section
local macro_rules | `(tactic| walk_at "x")=>`(tactic| first | ((with_reducible show PE _ (.BinOp _ .Mult ..) _);exact @NM _ _ _ _ _ _ _ _ (@uF _ K rfl) (by walk_at "e") (by walk_at "e")))
theorem Q7 {f:Addr}{fd:FuncData}(F:Fun K "_law_mixed" "_law_mixed" EE f fd):FnOk P w K mg base CX0 1 f fd ["_law_cell"] (spD K 1 CQ):=by
 refine fnD F JI fun cdv A outer s H E hr=>?_
 have hu:=hr.units
 have nd:=JI.nd
 refine⟨_,by walk_at "b1", ?_⟩
 clear nd
 rintro xs M hl ⟨c,rfl,hc⟩
 walk_at "r"
 refine fY (mM hc) ?_
 walk_at "r"
 exact⟨M,zT M,rfl,_,rfl⟩
end
def TU:List Str:=["_law_pack", "_law_size", "_law_digit"]
theorem KW:FnScope TU ["_law_pack", "_law_size"] (AC FC):=⟨rfl,rfl,rfl,by decide +kernel,rfl,by decide +kernel,by decide +kernel⟩
section
local macro_rules | `(tactic| walk_at "x")=>`(tactic| first | ((with_reducible show PS _ (.Assign [.Tuple ..] ..) _);exact @RV _ _ _ _ _ _ (by walk_at "e") (by walk_at "g") (by rfl) (by rfl) (by rfl)) | ((with_reducible show PG _ (.Tuple ..) _);exact @ZE _ K _ _ _ _ (2) rfl rfl (by walk_at "j") (by rfl) (by rfl)) | ((with_reducible show PG _ (.Subscript ..) _);exact @pI _ _ _ _ _ _ _ (by walk_at "e") (by walk_at "e") (@dN _) (by intro _;rfl)))
theorem TV {f:Addr}{fd:FuncData}(F:Fun K "_law_take" "_law_take" FC f fd) (n_divmod:mg "divmod"=none):FnOk P w K mg base CX0 1 f fd ["_law_pack", "_law_size"] (spD K 2 BI):=by
 refine fnD F KW fun cdv A outer s H E hr=>?_
 have hu:=hr.units
 have nd:=KW.nd
 refine⟨_,by walk_at "b2", ?_⟩
 clear nd
 rintro xs M hl ⟨p,size,o,rfl,m,⟨v,rfl⟩,h0,h1⟩
 walk_at "dl"
 refine EM ?_
 walk_at "r"
 refine bC h0 h1 ?_
 walk_at "r"
 refine⟨_,zT _,fun p' size' e=>?_⟩
 cases e
 exact⟨_,_,rfl,Int.emod_nonneg _ (by omega),Int.emod_lt_of_pos _ h0,⟨_,rfl⟩,rfl⟩
end
def FJ:List Str:=["_law_pack", "_law_amount", "_law_letters", "_law_turn", "_law_pick", "_law_size"]
def HB:List Str:=["_law_k", "_law_letters"]
def HC:List (Option Nat):=[none,some 2]
theorem N0:HB.Nodup:=by decide +kernel
def HD:List Str:=["_law_k", "_law_letters", "_law_size"]
def E5:List (Option Nat):=[none,some 2,some 5]
theorem N1:HD.Nodup:=by decide +kernel
theorem JJ:FnScope FJ ["_law_pack", "_law_amount"] (AC C0):=⟨rfl,rfl,rfl,by decide +kernel,rfl,by decide +kernel,by decide +kernel⟩
section
local macro_rules | `(tactic| walk_at "cs")=>`(tactic| first | exact @GQ _ _ HB HC (AC C0) FJ (by decide +kernel) (by decide +kernel) rfl rfl | exact @GQ _ _ HD E5 (AC C0) FJ (by decide +kernel) (by decide +kernel) rfl rfl)
local macro_rules | `(tactic| walk_at "x")=>`(tactic| first | ((with_reducible show PE _ (.BinOp _ .Mult ..) _);exact @NM _ _ _ _ _ _ _ _ (@uF _ K rfl) (by walk_at "e") (by walk_at "e")))
theorem Q8 {f:Addr}{fd:FuncData}(F:Fun K "_law_names" "_law_names" C0 f fd) (n_range:mg "range"=none) (h__law_take:Has P w K mg base "_law_take" 1 ["_law_pack", "_law_size"] BI):FnOk P w K mg base CX0 2 f fd ["_law_pack", "_law_amount"] (spD K 2 FY):=by
 refine fnD F JJ fun cdv A outer s H E hr=>?_
 have hu:=hr.units
 have nd:=JJ.nd
 have n0:=N0
 have n1:=N1
 refine⟨_,by walk_at "b2", ?_⟩
 clear nd n0 n1
 rintro xs M hl ⟨p,n,o,rfl,m,ho,hn0,hn1⟩
 obtain⟨N,rfl⟩:∃N:Nat,n=(N:Int):=⟨n.toNat,by omega⟩
 have hlz:((a0Q "abcdefghijklmnopqrstuvwxyz"):Str).length<=sizeLine:=by rw[HS];decide
 walk_at "r"
 refine BB m ho (by decide) (by decide) fun v1 o1 hv0 hv1 ho1=>?_
 obtain⟨t,rfl⟩:∃t:Nat,v1=(t:Int):=⟨v1.toNat,by omega⟩
 walk_at "r"
 refine KA hlz ?_
 walk_at "r"
 refine KA hlz ?_
 refine O2 (zN (Nat.add_le_add (QU _ _ _ (Nat.le_of_eq HS)) (QU _ _ _ (Nat.le_of_eq HS))) (by decide)) ?_
 have hRl:XA (a0J (a0Q "abcdefghijklmnopqrstuvwxyz") (some (t:Int)) none++a0J (a0Q "abcdefghijklmnopqrstuvwxyz") none (some (t:Int))):=by
   refine OC (fun c hc=>?_) (fun c hc=>?_)
   · rw[GE] at hc;exact O6 c (List.mem_of_mem_drop hc)
   · exact O6 c (aW hc)
 have hRn:(a0J (a0Q "abcdefghijklmnopqrstuvwxyz") (some (t:Int)) none++a0J (a0Q "abcdefghijklmnopqrstuvwxyz") none (some (t:Int))).cps.toList.length=26:=by
   rw[AQ,yY,GE,GC,a5X,a2V,← LH,fS];exact rM (xR (Int.ofNat_lt.mp hv1))
 have hRd:(a0J (a0Q "abcdefghijklmnopqrstuvwxyz") (some (t:Int)) none++a0J (a0Q "abcdefghijklmnopqrstuvwxyz") none (some (t:Int))).cps.toList.Nodup:=by
   rw[AQ,GE,GC];exact bP t
 have hRrun:Run (a0J (a0Q "abcdefghijklmnopqrstuvwxyz") (some (t:Int)) none++a0J (a0Q "abcdefghijklmnopqrstuvwxyz") none (some (t:Int))).cps.toList:=by
   rw[AQ,GE,GC];exact rR (gT t (by omega))
 revert hRl hRn hRd hRrun
 generalize a0J (a0Q "abcdefghijklmnopqrstuvwxyz") (some (t:Int)) none++a0J (a0Q "abcdefghijklmnopqrstuvwxyz") none (some (t:Int))=R
 intro hRl hRn hRd hRrun
 have hRz:R.length<=sizeLine:=by
   have:R.length=R.cps.toList.length:=by simp[Str.length]
   rw[this,hRn];decide
 have hRat:∀k:Nat,k < 26->∃c,atI R.cps.toList (k:Int)=some c/\F4 c=true:=fun k hk=>by
   have hk':k < R.cps.toList.length:=by rw[hRn];exact hk
   exact⟨R.cps.toList[k],AB (zV hk'),hRl _ (b1V hk')⟩
 walk_at "r"
 refine BB zU ho1 (by decide) (by decide) fun v2 o2 _ _ ho2=>?_
 rw[yI]
 walk_at "r"
 refine BB zU ho2 (by decide) (by decide) fun v3 o3 h30 h31 ho3=>?_
 rw[yI]
 obtain⟨s3,rfl⟩:∃s3:Nat,v3=(s3:Int):=⟨v3.toNat,by omega⟩
 have hmid:XA (a0J R (some 3) (some (3+(s3:Int))))/\(a0J R (some 3) (some (3+(s3:Int)))).cps.toList.length<=7/\Run (a0J R (some 3) (some (3+(s3:Int)))).cps.toList:=by
   have e:(a0J R (some 3) (some (3+(s3:Int)))).cps.toList=(R.cps.toList.take (3+s3)).drop 3:=bD R 3 (3+s3)
   refine⟨fun c hc=>?_,?_,?_⟩
   · rw[e] at hc;exact hRl c (b5Z (List.mem_of_mem_drop hc))
   · rw[e,a5X,a2V];exact rN (Nat.le_of_lt_succ (Int.ofNat_lt.mp h31))
   · rw[e];exact(hRrun.take _).drop _
 have hids:(C8 0 N).length=N:=by simp[C8]
 have hN:N<=26:=Int.ofNat_le.mp hn1
 have hsz:(C8 0 N).length < sizeLine:=by rw[hids];exact zQ hN (by decide)
 have fin:∀(g:PyData->PyData),(∀k:Nat,k < N->∃z,g (.int k) = .str z/\AM z/\z∉MX)->(∀i j:Nat,i < N->j < N->g (.int i)=g (.int j)->i=j)->∃ys:List Str,((C8 0 N).filter fun _=>true).map g=ys.map .str/\ys.length=N/\(∀z∈ys,AM z/\z∉MX)/\ys.Nodup:=fun g hg hi=>by
   rw[flt]
   refine⟨(a1V N).map fun(k:Nat)=>O7 (g (.int (k:Int))),?_,by simp,?_,?_⟩
   · unfold C8
     rw[zD,zD]
     apply yM
     intro k hk
     obtain⟨z,e,_⟩:=hg k (List.mem_range.mp hk)
     show g (.int (0+(k:Int))) = .str (O7 (g (.int k)))
     rw[b2K,e];rfl
   · intro z hz
     obtain⟨k,hk,rfl⟩:=zL.mp hz
     obtain⟨z,e,h⟩:=hg k (List.mem_range.mp hk)
     rw[e];exact h
   · refine nodup_range fun i j h1 h2 e=>hi i j h1 h2 ?_
     obtain⟨z1,e1,_⟩:=hg i h1
     obtain⟨z2,e2,_⟩:=hg j h2
     rw[e1,e2] at e ⊢
     exact congrArg a1X e
 walk_at "r"
 refine AR rfl rfl ?_
 rw[if_neg nft]
 walk_at "r"
 refine dY (fun h=>?_) (fun h=>?_)
 · walk_at "r"
   refine AI (B8 0) (by simp[HC]) ?_
   refine G8 ?_
   walk_at "r"
   refine⟨by omega,by omega,?_⟩
   rw[a4K]
   have hel:∀k:Nat,k < N->∃c,atI R.cps.toList ((k:Int)/8)=some c/\F4 c=true:=fun k hk=>hRat (k/8) (X9 hk hN)
   refine⟨hsz,fun _=>true,nmA R,?_,?_⟩
   · intro d hd M'
     obtain⟨k,hk,rfl⟩:=zL.mp hd
     obtain⟨c,e1,e2⟩:=hel k (List.mem_range.mp hk)
     rw[b2K]
     walk_at "dl"
     refine⟨rfl,?_⟩
     walk_at "dl"
     refine⟨rfl,rfl,fun _=>?_⟩
     walk_at "r"
     refine SD hRz e1 ?_
     walk_at "r"
     refine rK (JX _).1 (JX _).2.1 (by show 1<=1000;decide) ?_
     exact⟨by rw[SS e1],rfl⟩
   · have iA:∀i j:Nat,i < N->j < N->(nmA R) (.int i)=(nmA R) (.int j)->i=j:=fun i j h1 h2 e=>by
       obtain⟨c1,q1,_⟩:=hel i h1
       obtain⟨c2,q2,_⟩:=hel j h2
       rw[SS q1,SS q2] at e
       have e':MV ⟨#[c1]⟩ (1+(i:Int) % 8)=MV ⟨#[c2]⟩ (1+(j:Int) % 8):=by injection e
       obtain⟨hcc,hmn⟩:=m9 (JX _).1 (JX _).1 e'
       subst hcc
       have hq:=OR (i:=i/8) (j:=j/8) hRd q1 q2 (by rw[hRn];exact X9 h1 hN) (by rw[hRn];exact X9 h2 hN)
       exact uH hmn hq
     have hA:∀k:Nat,k < N->∃z,(nmA R) (.int k) = .str z/\AM z/\z∉MX:=fun k hk=>by
       obtain⟨c,q1,q2⟩:=hel k hk
       have hz:=SM (c:=c) (n:=1+(k:Int) % 8) (JX k).1
       refine⟨MV ⟨#[c]⟩ (1+(k:Int) % 8),SS q1,?_,jB hz⟩
       refine OB (fun d hd=>?_) ?_ ?_
       · rw[hz] at hd;rw[a8Q hd];exact q2
       · rw[hz,b0J];exact(JX k).2.2.1
       · rw[hz,b0J];exact(JX k).2.2.2
     obtain⟨ys,e1,e2,e3,e4⟩:=fin (nmA R) hA iA
     rw[e1]
     refine⟨_,zT _,fun p' n' e=>?_⟩
     cases e
     exact⟨ys,o3,rfl,by rw[e2],fun z hz=>(e3 z hz).1,fun z hz=>(e3 z hz).2,e4,ho3,rfl⟩
 · walk_at "r"
   refine AR rfl rfl ?_
   rw[if_neg nft]
   walk_at "r"
   have hel:∀k:Nat,k < N->∃c,atI R.cps.toList (k:Int)=some c/\F4 c=true:=fun k hk=>hRat k (zP hk hN)
   have hszs:∀c:Nat,(⟨#[c]⟩:Str).length+(a0J R (some 3) (some (3+(s3:Int)))).length<=sizeLine:=fun c=>by
     have:(a0J R (some 3) (some (3+(s3:Int)))).length=(a0J R (some 3) (some (3+(s3:Int)))).cps.toList.length:=by simp[Str.length]
     rw[this]
     exact zN (Nat.add_le_add (zR 1) hmid.2.1) (by decide)
   refine dY (fun h2=>?_) (fun h2=>?_)
   · walk_at "r"
     refine AI (B8 0) (by simp[E5]) ?_
     refine G8 ?_
     walk_at "r"
     refine⟨by omega,by omega,?_⟩
     rw[a4K]
     refine⟨hsz,fun _=>true,nmB R (a0J R (some 3) (some (3+(s3:Int)))),?_,?_⟩
     · intro d hd M'
       obtain⟨k,hk,rfl⟩:=zL.mp hd
       obtain⟨c,e1,e2⟩:=hel k (List.mem_range.mp hk)
       rw[b2K]
       walk_at "dl"
       refine⟨rfl,?_⟩
       walk_at "dl"
       refine⟨rfl,rfl,fun _=>?_⟩
       walk_at "r"
       refine SD hRz e1 ?_
       walk_at "r"
       refine KA hRz ?_
       refine O2 (hszs c) ?_
       exact⟨by rw[ST e1],rfl⟩
     · have iB:∀i j:Nat,i < N->j < N->(nmB R (a0J R (some 3) (some (3+(s3:Int))))) (.int i)=(nmB R (a0J R (some 3) (some (3+(s3:Int))))) (.int j)->i=j:=fun i j h1 h2 e=>by
         obtain⟨c1,q1,_⟩:=hel i h1
         obtain⟨c2,q2,_⟩:=hel j h2
         rw[ST q1,ST q2] at e
         have e':(⟨#[c1]⟩:Str)++a0J R (some 3) (some (3+(s3:Int)))=⟨#[c2]⟩++a0J R (some 3) (some (3+(s3:Int))):=by injection e
         have hc:=gU e'
         subst hc
         exact OR hRd q1 q2 (by rw[hRn];exact zP h1 hN) (by rw[hRn];exact zP h2 hN)
       have hB:∀k:Nat,k < N->∃z,(nmB R (a0J R (some 3) (some (3+(s3:Int))))) (.int k) = .str z/\AM z/\z∉MX:=fun k hk=>by
         obtain⟨c,q1,q2⟩:=hel k hk
         refine⟨_,ST q1,?_,jC (c:=c) (by rw[AQ];rfl) hmid.2.2⟩
         refine OB (OC (US q2) hmid.1) ?_ ?_
         · rw[AQ,yY];exact a9Q 1 _
         · rw[AQ,yY];exact a2Q hmid.2.1 1
       obtain⟨ys,e1,e2,e3,e4⟩:=fin (nmB R (a0J R (some 3) (some (3+(s3:Int))))) hB iB
       rw[e1]
       refine⟨_,zT _,fun p' n' e=>?_⟩
       cases e
       exact⟨ys,o3,rfl,by rw[e2],fun z hz=>(e3 z hz).1,fun z hz=>(e3 z hz).2,e4,ho3,rfl⟩
   · walk_at "r"
     refine AI (B8 0) (by simp[E5]) ?_
     refine G8 ?_
     walk_at "r"
     refine⟨by omega,by omega,?_⟩
     rw[a4K]
     refine⟨hsz,fun _=>true,nmC R (a0J R (some 3) (some (3+(s3:Int)))),?_,?_⟩
     · intro d hd M'
       obtain⟨k,hk,rfl⟩:=zL.mp hd
       obtain⟨c,e1,e2⟩:=hel k (List.mem_range.mp hk)
       rw[b2K]
       walk_at "dl"
       refine⟨rfl,?_⟩
       walk_at "dl"
       refine⟨rfl,rfl,fun _=>?_⟩
       walk_at "r"
       refine KA hRz ?_
       walk_at "r"
       refine SD hRz e1 ?_
       refine O2 (by rw[Nat.add_comm];exact hszs c) ?_
       exact⟨by rw[SU e1],rfl⟩
     · have iC:∀i j:Nat,i < N->j < N->(nmC R (a0J R (some 3) (some (3+(s3:Int))))) (.int i)=(nmC R (a0J R (some 3) (some (3+(s3:Int))))) (.int j)->i=j:=fun i j h1 h2 e=>by
         obtain⟨c1,q1,_⟩:=hel i h1
         obtain⟨c2,q2,_⟩:=hel j h2
         rw[SU q1,SU q2] at e
         have e':a0J R (some 3) (some (3+(s3:Int)))++(⟨#[c1]⟩:Str)=a0J R (some 3) (some (3+(s3:Int)))++⟨#[c2]⟩:=by injection e
         have hc:=gV e'
         subst hc
         exact OR hRd q1 q2 (by rw[hRn];exact zP h1 hN) (by rw[hRn];exact zP h2 hN)
       have hC:∀k:Nat,k < N->∃z,(nmC R (a0J R (some 3) (some (3+(s3:Int))))) (.int k) = .str z/\AM z/\z∉MX:=fun k hk=>by
         obtain⟨c,q1,q2⟩:=hel k hk
         refine⟨_,SU q1,?_,jD (c:=c) (by rw[AQ]) hmid.2.2⟩
         refine OB (OC hmid.1 (US q2)) ?_ ?_
         · rw[AQ,yY];exact Nat.le_add_left 1 _
         · rw[AQ,yY];exact b1K hmid.2.1 1
       obtain⟨ys,e1,e2,e3,e4⟩:=fin (nmC R (a0J R (some 3) (some (3+(s3:Int))))) hC iC
       rw[e1]
       refine⟨_,zT _,fun p' n' e=>?_⟩
       cases e
       exact⟨ys,o3,rfl,by rw[e2],fun z hz=>(e3 z hz).1,fun z hz=>(e3 z hz).2,e4,ho3,rfl⟩
end
def KY:List Str:=["_law_pack", "_law_some", "_law_spare", "_law_kind", "_law_place", "_law_number", "_law_one", "_law_others"]
def IO:List Str:=["_law_name", "_law_one"]
def IP:List (Option Nat):=[none,some 6]
theorem PP:IO.Nodup:=by decide +kernel
theorem KZ:FnScope KY ["_law_pack", "_law_some", "_law_spare"] (AC E1):=⟨rfl,rfl,rfl,by decide +kernel,rfl,by decide +kernel,by decide +kernel⟩
section
local macro_rules | `(tactic| walk_at "cs")=>`(tactic| first | exact @GQ _ _ IO IP (AC E1) KY (by decide +kernel) (by decide +kernel) rfl rfl)
local macro_rules | `(tactic| walk_at "x")=>`(tactic| first | ((with_reducible show PT _ (.Compare _ [.In] ..) _);exact @EB _ _ _ _ _ _ _ _ (@kIn _ K rfl) (by walk_at "e") (by walk_at "e") (by with_unfolding_all rfl)))
theorem TX {f:Addr}{fd:FuncData}(F:Fun K "_law_deed" "_law_deed" E1 f fd) (n_int:mg "int"=none) (n_len:mg "len"=none) (h__law_take:Has P w K mg base "_law_take" 1 ["_law_pack", "_law_size"] BI):FnOk P w K mg base CX0 2 f fd ["_law_pack", "_law_some", "_law_spare"] (spD K 3 DW):=by
 refine fnD F KZ fun cdv A outer s H E hr=>?_
 have hu:=hr.units
 have nd:=KZ.nd
 have n0:=PP
 refine⟨_,by walk_at "b2", ?_⟩
 clear nd n0
 rintro xs M hl ⟨p,o,so,sp,rfl,m,ho,hno,hne0⟩
 have nd2:∀{z:Str},z∈so->z∉sp:=fun {z} h1 h2=>(List.nodup_append.mp hno.2.1).2.2 z h1 z h2 rfl
 walk_at "r"
 refine BS ?_
 walk_at "r"
 refine BB m ho (by decide) (by decide) fun v1 o1 a0 a1 ho1=>?_
 obtain⟨kd,ekd,hkd⟩:=NE (ys:=GK) a0 a1
 refine DH (d:=.str kd) ekd ?_
 walk_at "r"
 refine BB zU ho1 (by decide) (by decide) fun pl o2 p0 p1 ho2=>?_
 rw[yI]
 walk_at "r"
 refine BB zU ho2 (by decide) (by decide) fun v3 o3 c0 c1 ho3=>?_
 rw[yI]
 walk_at "wks"
 refine GB (fun ρ1 M1=>∃(kd:Str),kd∈GK/\(kd=a0Q "put" ∨ kd=a0Q "name" ∨ kd=a0Q "split" -> sp≠[])/\(kd≠a0Q "put" -> so≠[])/\M1=M.put p o3/\ρ1=[some (.loc p),some (.d (AX so)),some (.d (AX sp)),some (.d (.str kd)),some (.d (.int pl)),some (.d (.int (v3 - 20))),none,none]) ?_ ?_
 · have hs1:zH (AX so)=true:=BZ fun z hz=>hno.1 z (by simp[hz])
   have hs2:zH (AX sp)=true:=BZ fun z hz=>hno.1 z (by simp[hz])
   have fin:∀b:Bool,sp.isEmpty=b->∃k2:Str,atI [a1X (a0Q "put"),.str (a0Q "move")] (if b then 1 else 0)=some (.str k2)/\k2∈GK/\((b=false/\k2=a0Q "put")∨(b=true/\k2=a0Q "move")):=fun b _=>by
     cases b with
     | true=>exact⟨"move", rfl,by simp[GK],.inr ⟨rfl,rfl⟩⟩
     | false=>exact⟨"put", rfl,by simp[GK],.inl ⟨rfl,rfl⟩⟩
   walk_at "wkd"
   refine AR hs1 rfl ?_
   rw[if_neg nft,BX]
   cases hso:so.isEmpty with
   | true=>
     have so0:so=[]:=List.isEmpty_iff.mp hso
     have sp0:sp≠[]:=hne0.resolve_left fun q=>q so0
     have spe:sp.isEmpty=false:=by cases sp with | nil=>exact absurd rfl sp0 | cons _ _=>rfl
     walk_at "r"
     refine BS ?_
     walk_at "wkd"
     refine AR hs2 rfl ?_
     rw[if_neg nft,BX,spe]
     walk_at "r"
     refine DH (d:=.str (a0Q "put")) rfl ?_
     exact⟨"put", by simp[GK],fun _=>sp0,fun q=>absurd rfl q,rfl,rfl⟩
   | false=>
     have so1:so≠[]:=fun q=>by rw[q] at hso;cases hso
     walk_at "wkd"
     refine AR hs2 rfl ?_
     rw[if_neg nft,BX]
     cases hsp:sp.isEmpty with
     | false=>
       have sp1:sp≠[]:=fun q=>by rw[q] at hsp;cases hsp
       walk_at "r"
       exact⟨kd,hkd,fun _=>sp1,fun _=>so1,rfl,rfl⟩
     | true=>
       walk_at "r"
       refine BS ?_
       walk_at "r"
       refine G9 (ys:=["put", "name", "split"]) ?_
       cases hin:decide (kd∈[a0Q "put", "name", "split"]) with
       | false=>
         walk_at "r"
         refine⟨kd,hkd,fun q=>?_,fun _=>so1,rfl,rfl⟩
         have:=of_decide_eq_false hin
         simp only[yX,xX,or_false] at this
         exact absurd q this
       | true=>
         walk_at "r"
         refine BS ?_
         walk_at "wkd"
         refine AR hs2 rfl ?_
         rw[if_neg nft,BX,hsp]
         walk_at "r"
         refine DH (d:=.str (a0Q "move")) rfl ?_
         exact⟨"move", by simp[GK],fun q=>by rcases q with q | q | q <;> exact absurd q (by decide +kernel),fun _=>so1,rfl,rfl⟩
 · rintro ρ1 M1 ⟨kd,hkd,k1,k2,rfl,rfl⟩
   generalize v3 - 20=nu
   walk_at "r"
   refine AR (FW hkd) (by decide +kernel) ?_
   rw[if_neg nft,BK]
   cases e1:(kd==a0Q "put") with
   | true=>
     have ek:kd=a0Q "put" := eq_of_beq e1
     walk_at "r"
     obtain⟨s0,sr,rfl⟩:∃s0 sr,sp=s0::sr:=by
       cases sp with
       | nil=>exact absurd rfl (k1 (.inl ek))
       | cons a r=>exact⟨a,r,rfl⟩
     refine DH (ds:=(s0::sr).map .str) (AB (j:=0) rfl) ?_
     walk_at "r"
     refine⟨_,zT _,fun p' so' sp' e=>?_⟩
     obtain⟨rfl,rfl,rfl⟩:=F6 e
     exact⟨.put s0 pl nu,_,rfl,⟨fun z hz=>by simp[Deed.names] at hz;subst hz;exact hno.1 _ (by simp),trivial,⟨p0,by omega⟩⟩,BW fun n hn=>by simp[Deed.names] at hn;subst hn;simp[Deed.made];exact fun q=>nd2 q (by simp),fun n e=>by simp[Deed.made] at e;subst e;rfl,ho3,rfl⟩
   | false=>
     have kne:kd≠a0Q "put" := fun q=>by rw[q] at e1;simp at e1
     have hso:=k2 kne
     have hsl:0 < so.length:=List.length_pos_iff.mpr hso
     have hs26:so.length<=26:=by have:=hno.2.2;rw[yY] at this;omega
     walk_at "r"
     refine Z7 ?_
     rw[zX]
     walk_at "r"
     refine BB zU ho3 (by omega) (by omega) fun v4 o4 d0 d1 ho4=>?_
     rw[yI]
     obtain⟨y1,ey1,my1⟩:=NE (ys:=so) d0 d1
     have hy1:AM y1:=hno.1 y1 (by simp[my1])
     refine DH ey1 ?_
     walk_at "r"
     refine AI (B8 0) (by simp[IP]) ?_
     refine BU ?_
     walk_at "r"
     refine⟨by rw[zX];exact zQ hs26 (by decide),fun d=>!a0Z d (.str y1),id,?_,?_⟩
     · intro d hd M'
       obtain⟨z,hz,rfl⟩:=zL.mp hd
       walk_at "r"
       refine⟨rfl,?_⟩
       walk_at "r"
       refine AR (AK (hno.1 z (by simp[hz]))) (AK hy1) ?_
       rw[if_pos rfl]
       walk_at "r"
       refine⟨rfl,rfl,fun _=>?_⟩
       walk_at "r"
       exact⟨rfl,rfl⟩
     rw[DB]
     walk_at "r"
     refine AR (FW hkd) (by decide +kernel) ?_
     rw[if_neg nft,BK]
     cases e2:(kd==a0Q "move") with
     | true=>
       have ek:kd=a0Q "move" := eq_of_beq e2
       walk_at "r"
       refine⟨_,zT _,fun p' so' sp' e=>?_⟩
       obtain⟨rfl,rfl,rfl⟩:=F6 e
       exact⟨.move y1 pl,_,rfl,⟨fun z hz=>by simp[Deed.names] at hz;subst hz;exact hy1,trivial,⟨p0,by omega⟩⟩,BW fun n hn=>by simp[Deed.names] at hn;subst hn;simp[Deed.made,my1],fun n e=>by simp[Deed.made] at e,ho4,rfl⟩
     | false=>
       walk_at "r"
       refine AR (FW hkd) (by decide +kernel) ?_
       rw[if_neg nft,BK]
       cases e3:(kd==a0Q "take") with
       | true=>
         have ek:kd=a0Q "take" := eq_of_beq e3
         walk_at "r"
         refine⟨_,zT _,fun p' so' sp' e=>?_⟩
         obtain⟨rfl,rfl,rfl⟩:=F6 e
         exact⟨.take y1,_,rfl,⟨fun z hz=>by simp[Deed.names] at hz;subst hz;exact hy1,trivial,trivial⟩,BW fun n hn=>by simp[Deed.names] at hn;subst hn;simp[Deed.made,my1],fun n e=>by simp[Deed.made] at e,ho4,rfl⟩
       | false=>
         walk_at "r"
         refine AR (FW hkd) (by decide +kernel) ?_
         rw[if_neg nft,BK]
         cases e4:(kd==a0Q "name") with
         | true=>
           have ek:kd=a0Q "name" := eq_of_beq e4
           walk_at "r"
           obtain⟨s0,sr,rfl⟩:∃s0 sr,sp=s0::sr:=by
             cases sp with
             | nil=>exact absurd rfl (k1 (.inr (.inl ek)))
             | cons a r=>exact⟨a,r,rfl⟩
           have hne:y1≠s0:=fun q=>nd2 my1 (by rw[q];simp)
           have hs0:AM s0:=hno.1 s0 (by simp)
           refine DH (ds:=(s0::sr).map .str) (AB (j:=0) rfl) ?_
           walk_at "r"
           refine⟨_,zT _,fun p' so' sp' e=>?_⟩
           obtain⟨rfl,rfl,rfl⟩:=F6 e
           exact⟨.name y1 s0,_,rfl,⟨fun z hz=>by simp[Deed.names] at hz;rcases hz with rfl | rfl;exact hy1;exact hs0,hne,trivial⟩,BW fun n hn=>by simp[Deed.names] at hn;rcases hn with rfl | rfl;(simp[Deed.made,my1];exact fun q=>hne q.symm);(simp[Deed.made];exact fun q=>nd2 q (by simp)),fun n e=>by simp[Deed.made] at e;subst e;rfl,ho4,rfl⟩
         | false=>
           walk_at "r"
           refine AR (FW hkd) (by decide +kernel) ?_
           rw[if_neg nft,BK]
           cases e5:(kd==a0Q "split") with
           | true=>
             have ek:kd=a0Q "split" := eq_of_beq e5
             walk_at "r"
             obtain⟨s0,sr,rfl⟩:∃s0 sr,sp=s0::sr:=by
               cases sp with
               | nil=>exact absurd rfl (k1 (.inr (.inr ek)))
               | cons a r=>exact⟨a,r,rfl⟩
             have hne:y1≠s0:=fun q=>nd2 my1 (by rw[q];simp)
             have hs0:AM s0:=hno.1 s0 (by simp)
             refine DH (ds:=(s0::sr).map .str) (AB (j:=0) rfl) ?_
             walk_at "r"
             refine⟨_,zT _,fun p' so' sp' e=>?_⟩
             obtain⟨rfl,rfl,rfl⟩:=F6 e
             exact⟨.split y1 s0 pl nu,_,rfl,⟨fun z hz=>by simp[Deed.names] at hz;rcases hz with rfl | rfl;exact hy1;exact hs0,hne,⟨p0,by omega⟩⟩,BW fun n hn=>by simp[Deed.names] at hn;rcases hn with rfl | rfl;(simp[Deed.made,my1];exact fun q=>hne q.symm);(simp[Deed.made];exact fun q=>nd2 q (by simp)),fun n e=>by simp[Deed.made] at e;subst e;rfl,ho4,rfl⟩
           | false=>
             walk_at "r"
             refine AR (FW hkd) (by decide +kernel) ?_
             rw[if_neg nft,BK]
             cases e6:(kd==a0Q "join") with
             | false=>
               walk_at "r"
               refine⟨_,zT _,fun p' so' sp' e=>?_⟩
               obtain⟨rfl,rfl,rfl⟩:=F6 e
               exact⟨.count y1 nu,_,rfl,⟨fun z hz=>by simp[Deed.names] at hz;subst hz;exact hy1,trivial,trivial⟩,BW fun n hn=>by simp[Deed.names] at hn;subst hn;simp[Deed.made,my1],fun n e=>by simp[Deed.made] at e,ho4,rfl⟩
             | true=>
               walk_at "wkd"
               have hfn:∀z∈so.filter (fun z=>decide (z≠y1)),AM z:=fun z hz=>hno.1 z (by simp[(yL.mp hz).1])
               refine AR (BZ hfn) rfl ?_
               rw[if_pos rfl,show a0Z (.list ((so.filter fun z=>decide (z≠y1)).map .str)) (.list [])=(so.filter fun z=>decide (z≠y1)).isEmpty from BX _]
               cases ho:(so.filter fun z=>decide (z≠y1)).isEmpty with
               | true=>
                 walk_at "r"
                 refine⟨_,zT _,fun p' so' sp' e=>?_⟩
                 obtain⟨rfl,rfl,rfl⟩:=F6 e
                 exact⟨.count y1 nu,_,rfl,⟨fun z hz=>by simp[Deed.names] at hz;subst hz;exact hy1,trivial,trivial⟩,BW fun n hn=>by simp[Deed.names] at hn;subst hn;simp[Deed.made,my1],fun n e=>by simp[Deed.made] at e,ho4,rfl⟩
               | false=>
                 have hol:0 < (so.filter fun z=>decide (z≠y1)).length:=by
                   rw[List.length_pos_iff];intro q;rw[q] at ho;cases ho
                 have hol2:(so.filter fun z=>decide (z≠y1)).length<=26:=zN (yJ _ _) hs26
                 walk_at "r"
                 refine Z7 ?_
                 rw[zX]
                 walk_at "r"
                 refine BB zU ho4 (by omega) (by omega) fun v5 o5 f0 f1 ho5=>?_
                 rw[yI]
                 obtain⟨y2,ey2,my2⟩:=NE (ys:=so.filter fun z=>decide (z≠y1)) f0 f1
                 have hy2:=hfn y2 my2
                 have hne:y1≠y2:=fun e=>by have:=(yL.mp my2).2;simp at this;exact this e.symm
                 refine DH ey2 ?_
                 walk_at "r"
                 refine⟨_,zT _,fun p' so' sp' e=>?_⟩
                 obtain⟨rfl,rfl,rfl⟩:=F6 e
                 exact⟨.join y1 y2,_,rfl,⟨fun z hz=>by simp[Deed.names] at hz;rcases hz with rfl | rfl;exact hy1;exact hy2,hne,trivial⟩,BW fun n hn=>by simp[Deed.names] at hn;rcases hn with rfl | rfl;(simp[Deed.made,my1]);(simp[Deed.made,(yL.mp my2).1]),fun n e=>by simp[Deed.made] at e,ho5,rfl⟩
end
def FK:List Str:=["_law_deed_here", "_law_some", "_law_spare", "_law_stay", "_law_gone_name"]
def HE:List Str:=["_law_name", "_law_deed_here"]
def E6:List (Option Nat):=[none,some 0]
theorem N2:HE.Nodup:=by decide +kernel
def HF:List Str:=["_law_name", "_law_gone_name"]
def BO:List (Option Nat):=[none,some 4]
theorem N3:HF.Nodup:=by decide +kernel
theorem JK:FnScope FK ["_law_deed_here", "_law_some", "_law_spare"] (AC C6):=⟨rfl,rfl,rfl,by decide +kernel,rfl,by decide +kernel,by decide +kernel⟩
section
local macro_rules | `(tactic| walk_at "cs")=>`(tactic| first | exact @GQ _ _ HE E6 (AC C6) FK (by decide +kernel) (by decide +kernel) rfl rfl | exact @GQ _ _ HF BO (AC C6) FK (by decide +kernel) (by decide +kernel) rfl rfl)
local macro_rules | `(tactic| walk_at "x")=>`(tactic| first | ((with_reducible show PT _ (.Compare _ [.In] ..) _);exact @EB _ _ _ _ _ _ _ _ (@kIn _ K rfl) (by walk_at "e") (by walk_at "e") (by with_unfolding_all rfl)) | ((with_reducible show PE _ (.Call (.Attribute _ (a0Q "get") _) ..) _);exact @NT _ _ _ _ _ _ _ _ _ hu1 (by walk_at "e") (by walk_at "e") (by walk_at "e") (@L2.M2.mk _ _ _ _ _ _ _ rfl rfl rfl rfl)) | ((with_reducible show PE _ (.Dict ..) _);exact @YT _ _ _ _ _ (@HQ _ _ _ _ _ _ _ _ _ (by walk_at "e") (by walk_at "e") (@HQ _ _ _ _ _ _ _ _ _ (by walk_at "e") (by walk_at "e") (@YS _ _))) rfl rfl (by simp) (by decide)))
theorem Q9 {f:Addr}{fd:FuncData}(F:Fun K "_law_after" "_law_after" C6 f fd):FnOk P w K mg base CX0 1 f fd ["_law_deed_here", "_law_some", "_law_spare"] (spD K 3 CV):=by
 refine fnD F JK fun cdv A outer s H E hr=>?_
 have hu:=hr.units
 have hu1:=zQ (a2Q (show 1<=64 by decide) _) hu
 have nd:=JK.nd
 have n0:=N2
 have n1:=N3
 refine⟨_,by walk_at "b2", ?_⟩
 clear nd n0 n1
 rintro xs M hl ⟨D,so,sp,rfl,hr,hno,ha⟩
 have hs26:so.length<=26:=by have:=hno.2.2;rw[yY] at this;omega
 walk_at "r"
 cases D with
 | put x pl k=>
   have hx:AM x:=hr.1 x (by simp[Deed.names])
   rw[show Deed.d (Deed.put x pl k) = .tuple [.str (a0Q "put"),.str x,.int pl,.int k] from rfl]
   refine AA (d:=.str (a0Q "put")) (AB (j:=0) rfl) ?_
   walk_at "r"
   refine AD (t:=true) (by decide +kernel) ?_
   walk_at "r"
   refine BS ?_
   walk_at "r"
   refine AA (d:=.str x) (AB (j:=1) rfl) ?_
   walk_at "r"
   refine O3 (by rw[zX];exact zN (b1K hs26 1) (by decide)) ?_
   walk_at "r"
   refine D5 ?_
   rw[show E4 (sp.map a1X) (some 1) none=(sp.drop 1).map .str from(HU _ 1).trans (by rw[b9V])]
   walk_at "r"
   refine⟨M,zT M,fun D' so' sp' e=>?_⟩
   obtain⟨rfl,rfl,rfl⟩:=GL (D:=Deed.put x pl k) e
   exact⟨by rw[show(.str x:PyData)=a1X x from rfl];simp[AX,BE,CA,Deed.made],rfl⟩
 | take x=>
   have hx:AM x:=hr.1 x (by simp[Deed.names])
   rw[show Deed.d (Deed.take x) = .tuple [.str (a0Q "take"),.str x] from rfl]
   refine AA (d:=.str (a0Q "take")) (AB (j:=0) rfl) ?_
   walk_at "r"
   refine AD (t:=false) (by decide +kernel) ?_
   walk_at "r"
   refine AA (d:=.str (a0Q "take")) (AB (j:=0) rfl) ?_
   walk_at "r"
   refine BS ?_
   walk_at "r"
   refine G9 (ys:=["name", "split"]) ?_
   rw[show decide (a0Q "take" ∈ [a0Q "name", "split"])=false from by decide +kernel]
   walk_at "r"
   refine HX ?_
   refine HW fun q hq=>?_
   refine BV ?_
   walk_at "r"
   refine AA (d:=.str x) (AB (j:=1) rfl) ?_
   walk_at "r"
   refine BV ?_
   walk_at "r"
   refine AA (d:=.str x) rfl ?_
   walk_at "r"
   refine KB ?_
   refine⟨zU,yD rfl,by simp only[zI,a7J];decide +kernel,?_⟩
   rw[yG hq]
   walk_at "r"
   refine AA (d:=.str (a0Q "take")) (AB (j:=0) rfl) ?_
   walk_at "r"
   rw[show(GX (a0Q "take") (List.map (fun k=>(a1X k.1,k.2)) [(a0Q "take", .str x),(a0Q "join", .str x)])).getD (.str (a0Q "")) = .str x from rfl]
   refine AI (B8 0) (by simp[BO]) ?_
   refine BU ?_
   walk_at "r"
   refine⟨by rw[zX];exact zQ hs26 (by decide),fun d=>!a0Z d (.str x),id,?_,?_⟩
   · intro d hd M'
     obtain⟨z,hz,rfl⟩:=zL.mp hd
     have hzn:AM z:=hno.1 z (by simp[hz])
     walk_at "r"
     refine⟨rfl,?_⟩
     walk_at "r"
     refine AR (AK hzn) (AK hx) ?_
     rw[if_pos rfl]
     walk_at "r"
     refine⟨rfl,rfl,fun _=>?_⟩
     walk_at "r"
     exact⟨rfl,rfl⟩
   rw[DB]
   walk_at "r"
   refine⟨M,zT M,fun D' so' sp' e=>?_⟩
   obtain⟨rfl,rfl,rfl⟩:=GL (D:=Deed.take x) e
   exact⟨rfl,rfl⟩
 | move x pl=>
   have hx:AM x:=hr.1 x (by simp[Deed.names])
   rw[show Deed.d (Deed.move x pl) = .tuple [.str (a0Q "move"),.str x,.int pl] from rfl]
   refine AA (d:=.str (a0Q "move")) (AB (j:=0) rfl) ?_
   walk_at "r"
   refine AD (t:=false) (by decide +kernel) ?_
   walk_at "r"
   refine AA (d:=.str (a0Q "move")) (AB (j:=0) rfl) ?_
   walk_at "r"
   refine BS ?_
   walk_at "r"
   refine G9 (ys:=["name", "split"]) ?_
   rw[show decide (a0Q "move" ∈ [a0Q "name", "split"])=false from by decide +kernel]
   walk_at "r"
   refine HX ?_
   refine HW fun q hq=>?_
   refine BV ?_
   walk_at "r"
   refine AA (d:=.str x) (AB (j:=1) rfl) ?_
   walk_at "r"
   refine BV ?_
   walk_at "r"
   refine AA (d:=.int pl) rfl ?_
   walk_at "r"
   refine KB ?_
   refine⟨zU,yD rfl,by simp only[zI,a7J];decide +kernel,?_⟩
   rw[yG hq]
   walk_at "r"
   refine AA (d:=.str (a0Q "move")) (AB (j:=0) rfl) ?_
   walk_at "r"
   rw[show(GX (a0Q "move") (List.map (fun k=>(a1X k.1,k.2)) [(a0Q "take", .str x),(a0Q "join", .int pl)])).getD (.str (a0Q "")) = .str (a0Q "") from rfl]
   refine AI (B8 0) (by simp[BO]) ?_
   refine BU ?_
   walk_at "r"
   refine⟨by rw[zX];exact zQ hs26 (by decide),fun d=>!a0Z d (.str (a0Q "")),id,?_,?_⟩
   · intro d hd M'
     obtain⟨z,hz,rfl⟩:=zL.mp hd
     have hzn:AM z:=hno.1 z (by simp[hz])
     walk_at "r"
     refine⟨rfl,?_⟩
     walk_at "r"
     refine AR (AK hzn) (by decide +kernel) ?_
     rw[if_pos rfl]
     walk_at "r"
     refine⟨rfl,rfl,fun _=>?_⟩
     walk_at "r"
     exact⟨rfl,rfl⟩
   rw[DB]
   walk_at "r"
   refine⟨M,zT M,fun D' so' sp' e=>?_⟩
   obtain⟨rfl,rfl,rfl⟩:=GL (D:=Deed.move x pl) e
   exact⟨by rw[ZN fun z hz=>hno.1 z (by simp[hz])];rfl,rfl⟩
 | count x k=>
   have hx:AM x:=hr.1 x (by simp[Deed.names])
   rw[show Deed.d (Deed.count x k) = .tuple [.str (a0Q "count"),.str x,.int k] from rfl]
   refine AA (d:=.str (a0Q "count")) (AB (j:=0) rfl) ?_
   walk_at "r"
   refine AD (t:=false) (by decide +kernel) ?_
   walk_at "r"
   refine AA (d:=.str (a0Q "count")) (AB (j:=0) rfl) ?_
   walk_at "r"
   refine BS ?_
   walk_at "r"
   refine G9 (ys:=["name", "split"]) ?_
   rw[show decide (a0Q "count" ∈ [a0Q "name", "split"])=false from by decide +kernel]
   walk_at "r"
   refine HX ?_
   refine HW fun q hq=>?_
   refine BV ?_
   walk_at "r"
   refine AA (d:=.str x) (AB (j:=1) rfl) ?_
   walk_at "r"
   refine BV ?_
   walk_at "r"
   refine AA (d:=.int k) rfl ?_
   walk_at "r"
   refine KB ?_
   refine⟨zU,yD rfl,by simp only[zI,a7J];decide +kernel,?_⟩
   rw[yG hq]
   walk_at "r"
   refine AA (d:=.str (a0Q "count")) (AB (j:=0) rfl) ?_
   walk_at "r"
   rw[show(GX (a0Q "count") (List.map (fun k=>(a1X k.1,k.2)) [(a0Q "take", .str x),(a0Q "join", .int k)])).getD (.str (a0Q "")) = .str (a0Q "") from rfl]
   refine AI (B8 0) (by simp[BO]) ?_
   refine BU ?_
   walk_at "r"
   refine⟨by rw[zX];exact zQ hs26 (by decide),fun d=>!a0Z d (.str (a0Q "")),id,?_,?_⟩
   · intro d hd M'
     obtain⟨z,hz,rfl⟩:=zL.mp hd
     have hzn:AM z:=hno.1 z (by simp[hz])
     walk_at "r"
     refine⟨rfl,?_⟩
     walk_at "r"
     refine AR (AK hzn) (by decide +kernel) ?_
     rw[if_pos rfl]
     walk_at "r"
     refine⟨rfl,rfl,fun _=>?_⟩
     walk_at "r"
     exact⟨rfl,rfl⟩
   rw[DB]
   walk_at "r"
   refine⟨M,zT M,fun D' so' sp' e=>?_⟩
   obtain⟨rfl,rfl,rfl⟩:=GL (D:=Deed.count x k) e
   exact⟨by rw[ZN fun z hz=>hno.1 z (by simp[hz])];rfl,rfl⟩
 | name x y=>
   have hx:AM x:=hr.1 x (by simp[Deed.names])
   have hy:AM y:=hr.1 y (by simp[Deed.names])
   rw[show Deed.d (Deed.name x y) = .tuple [.str (a0Q "name"),.str x,.str y] from rfl]
   refine AA (d:=.str (a0Q "name")) (AB (j:=0) rfl) ?_
   walk_at "r"
   refine AD (t:=false) (by decide +kernel) ?_
   walk_at "r"
   refine AA (d:=.str (a0Q "name")) (AB (j:=0) rfl) ?_
   walk_at "r"
   refine BS ?_
   walk_at "r"
   refine G9 (ys:=["name", "split"]) ?_
   rw[show decide (a0Q "name" ∈ [a0Q "name", "split"])=true from by decide +kernel]
   walk_at "r"
   refine AI (B8 0) (by simp[E6]) ?_
   refine BU ?_
   walk_at "r"
   refine⟨by rw[zX];exact zQ hs26 (by decide),fun d=>!a0Z d (.str x),id,?_,?_⟩
   · intro d hd M'
     obtain⟨z,hz,rfl⟩:=zL.mp hd
     have hzn:AM z:=hno.1 z (by simp[hz])
     walk_at "r"
     refine⟨rfl,?_⟩
     walk_at "r"
     refine AA (d:=.str x) (AB (j:=1) rfl) ?_
     refine AR (AK hzn) (AK hx) ?_
     rw[if_pos rfl]
     cases hq:a0Z (.str z) (.str x) with
     | false=>
       walk_at "r"
       refine⟨rfl,by show _ = !a0Z (.str z) (.str x);rw[hq];rfl,fun _=>?_⟩
       walk_at "r"
       exact⟨rfl,rfl⟩
     | true=>
       walk_at "r"
       refine AA (d:=.str (a0Q "name")) (AB (j:=0) rfl) ?_
       walk_at "r"
       refine AD (t:=false) (by decide +kernel) ?_
       walk_at "r"
       refine⟨rfl,by show _ = !a0Z (.str z) (.str x);rw[hq];rfl,fun h=>?_⟩
       have h:(!a0Z (.str z) (.str x))=true:=h
       rw[hq] at h;cases h
   rw[DB]
   walk_at "wkd"
   refine AA (d:=.str y) (AB (j:=2) rfl) ?_
   walk_at "r"
   refine O3 (by rw[zX];exact zN (b1K (zN (yJ _ _) hs26) 1) (by decide)) ?_
   walk_at "r"
   refine D5 ?_
   rw[show E4 (sp.map a1X) (some 1) none=(sp.drop 1).map .str from(HU _ 1).trans (by rw[b9V])]
   walk_at "r"
   refine⟨M,zT M,fun D' so' sp' e=>?_⟩
   obtain⟨rfl,rfl,rfl⟩:=GL (D:=Deed.name x y) e
   exact⟨by simp[AX,BE,CA,Deed.made],rfl⟩
 | split x y pl k=>
   have hx:AM x:=hr.1 x (by simp[Deed.names])
   have hy:AM y:=hr.1 y (by simp[Deed.names])
   rw[show Deed.d (Deed.split x y pl k) = .tuple [.str (a0Q "split"),.str x,.str y,.int pl,.int k] from rfl]
   refine AA (d:=.str (a0Q "split")) (AB (j:=0) rfl) ?_
   walk_at "r"
   refine AD (t:=false) (by decide +kernel) ?_
   walk_at "r"
   refine AA (d:=.str (a0Q "split")) (AB (j:=0) rfl) ?_
   walk_at "r"
   refine BS ?_
   walk_at "r"
   refine G9 (ys:=["name", "split"]) ?_
   rw[show decide (a0Q "split" ∈ [a0Q "name", "split"])=true from by decide +kernel]
   walk_at "r"
   refine AI (B8 0) (by simp[E6]) ?_
   refine BU ?_
   walk_at "r"
   refine⟨by rw[zX];exact zQ hs26 (by decide),fun _=>true,id,?_,?_⟩
   · intro d hd M'
     obtain⟨z,hz,rfl⟩:=zL.mp hd
     have hzn:AM z:=hno.1 z (by simp[hz])
     walk_at "r"
     refine⟨rfl,?_⟩
     walk_at "r"
     refine AA (d:=.str x) (AB (j:=1) rfl) ?_
     refine AR (AK hzn) (AK hx) ?_
     rw[if_pos rfl]
     cases hq:a0Z (.str z) (.str x) with
     | false=>
       walk_at "r"
       refine⟨rfl,rfl,fun _=>?_⟩
       walk_at "r"
       exact⟨rfl,rfl⟩
     | true=>
       walk_at "r"
       refine AA (d:=.str (a0Q "split")) (AB (j:=0) rfl) ?_
       walk_at "r"
       refine AD (t:=true) (by decide +kernel) ?_
       walk_at "r"
       refine⟨rfl,rfl,fun _=>?_⟩
       walk_at "r"
       exact⟨rfl,rfl⟩
   rw[SW,b6Z]
   walk_at "wkd"
   refine AA (d:=.str y) (AB (j:=2) rfl) ?_
   walk_at "r"
   refine O3 (by rw[zX];exact zN (b1K (hs26) 1) (by decide)) ?_
   walk_at "r"
   refine D5 ?_
   rw[show E4 (sp.map a1X) (some 1) none=(sp.drop 1).map .str from(HU _ 1).trans (by rw[b9V])]
   walk_at "r"
   refine⟨M,zT M,fun D' so' sp' e=>?_⟩
   obtain⟨rfl,rfl,rfl⟩:=GL (D:=Deed.split x y pl k) e
   exact⟨by simp[AX,BE,CA,Deed.made],rfl⟩
 | join x y=>
   have hx:AM x:=hr.1 x (by simp[Deed.names])
   have hy:AM y:=hr.1 y (by simp[Deed.names])
   rw[show Deed.d (Deed.join x y) = .tuple [.str (a0Q "join"),.str x,.str y] from rfl]
   refine AA (d:=.str (a0Q "join")) (AB (j:=0) rfl) ?_
   walk_at "r"
   refine AD (t:=false) (by decide +kernel) ?_
   walk_at "r"
   refine AA (d:=.str (a0Q "join")) (AB (j:=0) rfl) ?_
   walk_at "r"
   refine BS ?_
   walk_at "r"
   refine G9 (ys:=["name", "split"]) ?_
   rw[show decide (a0Q "join" ∈ [a0Q "name", "split"])=false from by decide +kernel]
   walk_at "r"
   refine HX ?_
   refine HW fun q hq=>?_
   refine BV ?_
   walk_at "r"
   refine AA (d:=.str x) (AB (j:=1) rfl) ?_
   walk_at "r"
   refine BV ?_
   walk_at "r"
   refine AA (d:=.str y) rfl ?_
   walk_at "r"
   refine KB ?_
   refine⟨zU,yD rfl,by simp only[zI,a7J];decide +kernel,?_⟩
   rw[yG hq]
   walk_at "r"
   refine AA (d:=.str (a0Q "join")) (AB (j:=0) rfl) ?_
   walk_at "r"
   rw[show(GX (a0Q "join") (List.map (fun k=>(a1X k.1,k.2)) [(a0Q "take", .str x),(a0Q "join", .str y)])).getD (.str (a0Q "")) = .str y from rfl]
   refine AI (B8 0) (by simp[BO]) ?_
   refine BU ?_
   walk_at "r"
   refine⟨by rw[zX];exact zQ hs26 (by decide),fun d=>!a0Z d (.str y),id,?_,?_⟩
   · intro d hd M'
     obtain⟨z,hz,rfl⟩:=zL.mp hd
     have hzn:AM z:=hno.1 z (by simp[hz])
     walk_at "r"
     refine⟨rfl,?_⟩
     walk_at "r"
     refine AR (AK hzn) (AK hy) ?_
     rw[if_pos rfl]
     walk_at "r"
     refine⟨rfl,rfl,fun _=>?_⟩
     walk_at "r"
     exact⟨rfl,rfl⟩
   rw[DB]
   walk_at "r"
   refine⟨M,zT M,fun D' so' sp' e=>?_⟩
   obtain⟨rfl,rfl,rfl⟩:=GL (D:=Deed.join x y) e
   exact⟨rfl,rfl⟩
end
def JL:List Str:=["_law_pack", "_law_names_here", "_law_amount", "_law_some"]
def HG:List Str:=["_law_k", "_law_names_here", "_law_pack"]
def HH:List (Option Nat):=[none,some 1,some 0]
theorem N4:HG.Nodup:=by decide +kernel
theorem JM:FnScope JL ["_law_pack", "_law_names_here", "_law_amount"] (AC D0):=⟨rfl,rfl,rfl,by decide +kernel,rfl,by decide +kernel,by decide +kernel⟩
section
local macro_rules | `(tactic| walk_at "cs")=>`(tactic| first | exact @GQ _ _ HG HH (AC D0) JL (by decide +kernel) (by decide +kernel) rfl rfl)
theorem QA {f:Addr}{fd:FuncData}(F:Fun K "_law_start" "_law_start" D0 f fd) (n_range:mg "range"=none) (n_sorted:mg "sorted"=none) (n_tuple:mg "tuple"=none) (h__law_take:Has P w K mg base "_law_take" 1 ["_law_pack", "_law_size"] BI):FnOk P w K mg base CX0 2 f fd ["_law_pack", "_law_names_here", "_law_amount"] (spD K 3 CW):=by
 refine fnD F JM fun cdv A outer s H E hr=>?_
 have hu:=hr.units
 have nd:=JM.nd
 have n0:=N4
 refine⟨_,by walk_at "b2", ?_⟩
 clear nd n0
 rintro xs M hl ⟨p,o,ys,n,rfl,m,ho,hy,hn⟩
 have h26:n<=26:=zN hn hy.2.2
 walk_at "dl";walk_at "dl"
 refine SB (B8 0) (by simp[HH]) ?_
 refine G8 ?_
 walk_at "r"
 refine⟨by omega,by omega,?_⟩
 have hnn:(C8 0 (n:Int).toNat).length=n:=by simp[C8]
 refine⟨by rw[hnn];exact zQ h26 (by decide),fun A hA=>?_⟩
 have hpA:p≠A:=by rintro rfl;rw[m] at hA;cases hA
 refine⟨fun k acc M'=>∃(w:List Th) (o2:MO),acc=w.map thD/\w.length=k/\w.map (·.1)=ys.take k/\(∀t∈w,0<=t.2.1/\t.2.1<=999)/\DO o2/\M'=(M.put p o2).put A (.l acc),⟨[],o,rfl,rfl,by simp,by simp,ho,by rw[Own.put_self m]⟩,?_,?_,?_⟩
 · rintro k acc M' ⟨w,o2,rfl,hk,-,-,-,rfl⟩
   exact⟨zU,by simp[hk]⟩
 · rintro k d acc M' hd ⟨w,o2,rfl,hk,hw,hb,ho2,rfl⟩
   have hkn:k < n:=by rw[← hnn];exact(yT.mp hd).1
   have ed:d = .int k:=by
     unfold C8 at hd
     rw[zF,yA (by omega)] at hd
     simp at hd;exact hd.symm
   subst ed
   have hky:k < ys.length:=by omega
   have hg:(ys.map a1X)[k]?=some (.str ys[k]):=by rw[zF,zV hky];rfl
   walk_at "r"
   refine DH (AB hg) ?_
   walk_at "r"
   refine BB (by rw[yH hpA];exact zU) ho2 (by decide) (by decide) fun v o3 h0 h1 ho3=>?_
   walk_at "r"
   refine BB zU ho3 (by decide) (by decide) fun v2 o4 _ _ ho4=>?_
   walk_at "r"
   refine⟨by rw[yI,yH hpA.symm];exact zU,w++[(ys[k],v,v2 - 20)],o4,by simp[thD],by simp[hk],by rw[xI,hw,b0V,zV hky];rfl,?_,ho4,?_⟩
   · intro t ht
     rcases yW.mp ht with h | h
     · exact hb t h
     · have:t=(ys[k],v,v2 - 20):=by simpa using h
       subst this;exact⟨h0,by show v<=999;omega⟩
   · rw[yI];exact fR hpA
 · rintro acc M' ⟨w,o2,rfl,hk,hw,hb,ho2,rfl⟩
   rw[hnn] at hk hw
   rw[yG (by rw[yH hpA.symm];exact hA)]
   walk_at "r"
   have ndw:(w.map (·.1)).Nodup:=by rw[hw];exact hy.2.1.sublist (List.take_sublist _ _)
   rw[← hX]
   refine gM (by rw[zD];exact ndw) (by rw[zX];omega) fun ts' hp hlt=>?_
   obtain⟨u1,u2,u3⟩:=i0 hp
   rw[u2]
   walk_at "r"
   refine IV ?_
   refine⟨M.put p o2,zT _,fun p' ys' n' e=>?_⟩
   simp only[List.cons.injEq,DS.loc.injEq,DS.d.injEq,PyData.int.injEq,Int.ofNat_inj,and_true] at e
   obtain⟨rfl,e,rfl⟩:=e
   have e:=IE e
   subst e
   refine⟨ts'.map unB,o2,rfl,⟨by rw[u3];exact XV hlt,fun t ht=>?_⟩,by rw[← hw];exact u1.map _,ho2,rfl⟩
   have ht:=u1.mem_iff.mp ht
   refine⟨hy.1 _ ?_,hb t ht⟩
   have:t.1∈ys.take n:=by rw[← hw];exact zL.mpr ⟨t,ht,rfl⟩
   exact b5Z this
end
def TY:List Str:=["_law_head", "_law_cells", "_law_pack", "_law_spare", "_law_amount", "_law_start_here", "_law_some", "_law_lines", "_law_cell", "_law_digits", "_law_hand", "_law_deed_here"]
theorem L4:FnScope TY ["_law_head", "_law_cells"] (AC FD):=⟨rfl,rfl,rfl,by decide +kernel,rfl,by decide +kernel,by decide +kernel⟩
section
local macro_rules | `(tactic| walk_at "x")=>`(tactic| first | ((with_reducible show PS _ (.Assign [.Tuple ..] ..) _);exact @RV _ _ _ _ _ _ (by walk_at "e") (by walk_at "g") (by rfl) (by rfl) (by rfl)) | ((with_reducible show PG _ (.Tuple ..) _);exact @ZE _ K _ _ _ _ (2) rfl rfl (by walk_at "j") (by rfl) (by rfl)))
theorem TZ {f:Addr}{fd:FuncData}(F:Fun K "_law_book" "_law_book" FD f fd) (n_tuple:mg "tuple"=none) (h__law_after:Has P w K mg base "_law_after" 1 ["_law_deed_here", "_law_some", "_law_spare"] CV) (h__law_deed:Has P w K mg base "_law_deed" 2 ["_law_pack", "_law_some", "_law_spare"] DW) (h__law_mixed:Has P w K mg base "_law_mixed" 1 ["_law_cell"] CQ) (h__law_names:Has P w K mg base "_law_names" 2 ["_law_pack", "_law_amount"] FY) (h__law_start:Has P w K mg base "_law_start" 2 ["_law_pack", "_law_names_here", "_law_amount"] CW) (h__law_take:Has P w K mg base "_law_take" 1 ["_law_pack", "_law_size"] BI):FnOk P w K mg base CX0 3 f fd ["_law_head", "_law_cells"] (spD K 2 IL):=by
 refine fnD F L4 fun cdv A outer s H E hr=>?_
 have hu:=hr.units
 have nd:=L4.nd
 refine⟨_,by walk_at "b2", ?_⟩
 clear nd
 rintro xs M hl ⟨h,cs,rfl,hh,hcs,hcl⟩
 walk_at "r"
 refine N9 ?_
 walk_at "r"
 refine OQ hh fun v=>?_
 walk_at "r"
 intro p hp
 walk_at "r"
 refine T8 zU ⟨v,rfl⟩ (by decide) (by decide) fun ys o1 hyl hy hyb hyn ho1=>?_
 rw[yI]
 walk_at "r"
 refine BB zU ho1 (by decide) (by decide) fun va o2 a0 a1 ho2=>?_
 rw[yI]
 obtain⟨n,rfl⟩:∃n:Nat,va=(n:Int):=⟨va.toNat,by omega⟩
 have hyok:namesOK ys:=⟨hy,hyn,by omega⟩
 walk_at "r"
 refine XU zU ho2 hyok (by omega) fun w0 o3 hw0 hp0 ho3=>?_
 have hl0:w0.length<=5:=by
   have:=hp0.length_eq
   rw[zX,a2V] at this
   omega
 rw[yI]
 walk_at "r"
 refine D5 ?_
 rw[SH,← b5K]
 walk_at "r"
 refine D5 ?_
 rw[HU,← b9V]
 walk_at "r"
 refine N9 ?_
 walk_at "r"
 intro A hA
 have hpA:p≠A:=by rintro rfl;rw[zU] at hA;cases hA
 have hMA:M A=none:=by rw[yH hpA.symm] at hA;exact hA
 walk_at "wks"
 refine GB (fun ρ1 M1=>∃(ls:List (Str×Deed)) (so sp:List Str) (x1 x2 x3 x4:Option DS),M.Sub M1/\M1 A=some (.l (ls.map BN))/\B31 w0 ls/\ρ1=[some (.d (.int h)),some (.d (.list (cs.map .int))),some (.loc p),some (.d (AX sp)),some (.d (.int n)),some (.d (wD w0)),some (.d (AX so)),some (.loc A),x1,x2,x3,x4]) ?_ ?_
 · refine JT ?_
   refine BU ?_
   walk_at "r"
   refine⟨fun k ρ1 M1=>k<=cs.length/\∃(ls:List (Str×Deed)) (so sp:List Str) (x1 x2 x3 x4:Option DS),M.Sub M1/\M1 A=some (.l (ls.map BN))/\(LU (ys.take n) (ys.drop n) (ls.map (·.2))/\ZU (ys.take n) (ys.drop n) (ls.map (·.2))=(so,sp))/\(∀l∈ls,AM l.1)/\ls.length<=k/\namesOK (so++sp)/\J31 w0 ys ls so sp/\ρ1=[some (.d (.int h)),some (.d (.list (cs.map .int))),some (.loc p),some (.d (AX sp)),some (.d (.int n)),some (.d (wD w0)),some (.d (AX so)),some (.loc A),x1,x2,x3,x4],⟨xT _,[],ys.take n,ys.drop n,_,_,_,_,?_,zU,⟨trivial,rfl⟩,by simp,by simp,by rw[b4K];exact hyok,⟨by rw[b4K];exact a3K _,trivial,hp0,hw0,(show w0.length<=5+0 by omega)⟩,rfl⟩,?_,?_⟩
   · exact((zT M).put hp).put hMA
   · rintro k d ρ1 M1 hd ⟨hkc,ls,so,sp,x1,x2,x3,x4,hsub,hMa,hb,hnl,hlk,hno,hj,rfl⟩
     have hkl:k < cs.length:=by have:=(yT.mp hd).1;simpa using this
     obtain⟨c,hc,rfl⟩:=zL.mp (yN hd)
     walk_at "r"
     refine N9 ?_
     walk_at "r"
     refine OQ (hcs c hc) fun v2=>?_
     walk_at "r"
     intro q hq
     have hqA:q≠A:=by rintro rfl;rw[hMa] at hq;cases hq
     have hMq:M q=none:=by
       cases e:M q with
       | none=>rfl
       | some ob=>rw[hsub q ob e] at hq;cases hq
     walk_at "r"
     refine BS ?_
     walk_at "r"
     refine BB zU ⟨v2,rfl⟩ (by decide) (by decide) fun v3 o4 b0 b1 ho4=>?_
     rw[yI]
     obtain⟨hd',ehd,mhd⟩:=NE (ys:=[a0Q "me", "you", "abcdefgh"]) b0 b1
     refine DH (d:=.str hd') ehd ?_
     have hs1:zH (AX so)=true:=BZ fun z hz=>hno.1 z (by simp[hz])
     have hs2:zH (AX sp)=true:=BZ fun z hz=>hno.1 z (by simp[hz])
     walk_at "wkd"
     refine AR hs1 rfl ?_
     rw[if_pos rfl,BX]
     have keep:∀ob:MO,M.Sub (M1.put q ob):=fun ob b o e=>by
       rw[yH (by rintro rfl;rw[hMq] at e;cases e)];exact hsub b o e
     cases hso:so.isEmpty with
     | false=>
       have hne:so≠[]∨sp≠[]:=.inl fun q=>by rw[q] at hso;cases hso
       walk_at "r"
       · refine P1 zU ho4 hno hne fun D o5 hr ha hm ho5=>?_
         rw[yI]
         walk_at "r"
         refine EM ?_
         walk_at "r"
         refine P2 hr hno ha ?_
         walk_at "r"
         refine Z0 ?_
         walk_at "dl"
         refine⟨SA (ds:=ls.map BN) (by rw[yH hqA.symm];exact hMa),?_⟩
         walk_at "r"
         refine LC (ds:=ls.map BN) (by rw[yH hqA.symm];exact hMa) (by rw[zX];exact zQ (show _<=50 by omega) (by decide)) ?_
         refine⟨by omega,ls++[(hd',D)],BE so D,CA sp D,_,_,_,_,?_,?_,?_,?_,?_,hno.sub (J1 hm),hj.step hr ha hm (by omega),rfl⟩
         · intro b o e
           rw[yH (by rintro rfl;rw[hMA] at e;cases e)]
           exact keep _ b o e
         · rw[xI];exact zU
         · rw[xI];exact K0 hb.1 hb.2 ha hm hr
         · intro l hl'
           rcases yW.mp hl' with q1 | q1
           · exact hnl l q1
           · have:l=(hd',D):=by simpa using q1
             subst this;exact VM _ mhd
         · rw[yY];simp;omega
     | true=>
       walk_at "wkd"
       refine AR hs2 rfl ?_
       rw[if_pos rfl,BX]
       cases hsp:sp.isEmpty with
       | false=>
         have hne:so≠[]∨sp≠[]:=.inr fun q=>by rw[q] at hsp;cases hsp
         walk_at "r"
         · refine P1 zU ho4 hno hne fun D o5 hr ha hm ho5=>?_
           rw[yI]
           walk_at "r"
           refine EM ?_
           walk_at "r"
           refine P2 hr hno ha ?_
           walk_at "r"
           refine Z0 ?_
           walk_at "dl"
           refine⟨SA (ds:=ls.map BN) (by rw[yH hqA.symm];exact hMa),?_⟩
           walk_at "r"
           refine LC (ds:=ls.map BN) (by rw[yH hqA.symm];exact hMa) (by rw[zX];exact zQ (show _<=50 by omega) (by decide)) ?_
           refine⟨by omega,ls++[(hd',D)],BE so D,CA sp D,_,_,_,_,?_,?_,?_,?_,?_,hno.sub (J1 hm),hj.step hr ha hm (by omega),rfl⟩
           · intro b o e
             rw[yH (by rintro rfl;rw[hMA] at e;cases e)]
             exact keep _ b o e
           · rw[xI];exact zU
           · rw[xI];exact K0 hb.1 hb.2 ha hm hr
           · intro l hl'
             rcases yW.mp hl' with q1 | q1
             · exact hnl l q1
             · have:l=(hd',D):=by simpa using q1
               subst this;exact VM _ mhd
           · rw[yY];simp;omega
       | true=>
         walk_at "r"
         exact⟨by omega,ls,so,sp,_,_,_,_,keep _,by rw[yH hqA.symm];exact hMa,hb,hnl,by omega,hno,hj,rfl⟩
   · rintro ρ1 M1 ⟨hkc,ls,so,sp,x1,x2,x3,x4,hsub,hMa,hb,hnl,hlk,hno,hj,rfl⟩
     rw[zX] at hlk
     have hfa:=RK _ _ _ hb.1 (by rw[b4K];exact hyok.2.1)
     exact⟨ls,so,sp,x1,x2,x3,x4,hsub,hMa,⟨⟨hfa.2,fun l hl=>P7 hb.1 _ (zL.mpr ⟨l,hl,rfl⟩),by omega,hnl⟩,hw0,hj.book,hl0,by omega,fun hf=>hyb _ (hj.sub.subset (zA _ (hj.perm.mem_iff.mp hf))) (by simp[MX])⟩,rfl⟩
 · rintro ρ1 M1 ⟨ls,so,sp,x1,x2,x3,x4,hsub,hMa,hreal,rfl⟩
   walk_at "r"
   refine i4 hMa ?_
   walk_at "r"
   exact⟨M,hsub,rfl,w0,ls,rfl,hreal⟩
end
def U0:List Str:=["_law_deed_here"]
theorem L5:FnScope U0 ["_law_deed_here"] (AC FE):=⟨rfl,rfl,rfl,by decide +kernel,rfl,by decide +kernel,by decide +kernel⟩
section
local macro_rules | `(tactic| walk_at "x")=>`(tactic| first | ((with_reducible show PE _ (.Call (.Attribute _ (a0Q "get") _) ..) _);exact @NT _ _ _ _ _ _ _ _ _ hu1 (by walk_at "e") (by walk_at "e") (by walk_at "e") (@L2.M2.mk _ _ _ _ _ _ _ rfl rfl rfl rfl)) | ((with_reducible show PE _ (.Dict ..) _);exact @YT _ _ _ _ _ (@HQ _ _ _ _ _ _ _ _ _ (by walk_at "e") (by walk_at "e") (@HQ _ _ _ _ _ _ _ _ _ (by walk_at "e") (by walk_at "e") (@HQ _ _ _ _ _ _ _ _ _ (by walk_at "e") (by walk_at "e") (@YS _ _)))) rfl rfl (by simp) (by decide)))
theorem U1 {f:Addr}{fd:FuncData}(F:Fun K "_law_made" "_law_made" FE f fd) (n_len:mg "len"=none) (n_min:mg "min"=none):FnOk P w K mg base CX0 1 f fd ["_law_deed_here"] (spD K 1 DZ):=by
 refine fnD F L5 fun cdv A outer s H E hr=>?_
 have hu:=hr.units
 have hu1:=zQ (a2Q (show 1<=64 by decide) _) hu
 have nd:=L5.nd
 refine⟨_,by walk_at "b1", ?_⟩
 clear nd
 rintro xs M hl ⟨D,rfl,hr⟩
 walk_at "r"
 cases D <;> (
   refine HX ?_
   refine HW fun q hq=>?_
   refine BV ?_
   walk_at "r"
   refine AA (d:=_) rfl ?_
   walk_at "r"
   refine BV ?_
   walk_at "r"
   refine AA (d:=_) rfl ?_
   walk_at "r"
   refine BV ?_
   walk_at "r"
   refine CO ?_
   walk_at "r"
   refine AA (d:=_) rfl ?_
   walk_at "r"
   refine KB ?_
   refine⟨zU,yD rfl,by simp only[zI,a7J];decide +kernel,?_⟩
   rw[yG hq]
   walk_at "r"
   refine AA (d:=_) rfl ?_
   walk_at "r"
   refine⟨M,zT M,fun D' e=>?_⟩
   simp only[List.cons.injEq,DS.d.injEq,and_true] at e
   obtain rfl:=EO e
   exact⟨rfl,rfl⟩)
end
def U2:List Str:=["_law_deed_here"]
theorem L6:FnScope U2 ["_law_deed_here"] (AC FF):=⟨rfl,rfl,rfl,by decide +kernel,rfl,by decide +kernel,by decide +kernel⟩
theorem U3 {f:Addr}{fd:FuncData}(F:Fun K "_law_must" "_law_must" FF f fd):FnOk P w K mg base CX0 1 f fd ["_law_deed_here"] (spD K 1 CM):=by
 refine fnD F L6 fun cdv A outer s H E hr=>?_
 have hu:=hr.units
 have nd:=L6.nd
 refine⟨_,by walk_at "b2", ?_⟩
 clear nd
 rintro xs M hl ⟨D,rfl,hr⟩
 have hap:=hr.2.1
 have fin:∀{y:DS}{ms:List Str},D.must=ms->y = .d (AX ms)->∃M2:Own,M2.Sub M/\CM.post [.d D.d] M y M2:=fun e1 e2=>⟨M,zT M,fun D' e=>by
   simp only[List.cons.injEq,DS.d.injEq,and_true] at e
   obtain rfl:=EO e
   rw[e1]
   exact⟨e2,rfl⟩⟩
 rw[D.d_eq] at *
 walk_at "r"
 refine AA (d:=.str D.word) (AB (j:=0) rfl) ?_
 walk_at "r"
 refine AR D.word_ok (by decide +kernel) ?_
 rw[if_neg nft,BK]
 cases h1:(D.word==a0Q "put") with
 | true=>
   walk_at "r"
   refine BS ?_
   walk_at "r"
   cases D <;> first | (exfalso;simp only[Deed.word] at h1;revert h1;decide +kernel) | skip
   exact fin (ms:=[]) (by simp[Deed.must,Deed.names,Deed.made,Deed.fst,Deed.rest]) rfl
 | false=>
   walk_at "r"
   refine AA (d:=.str D.word) (AB (j:=0) rfl) ?_
   walk_at "r"
   refine AR D.word_ok (by decide +kernel) ?_
   rw[if_neg nft,BK]
   cases h2:(D.word==a0Q "join") with
   | true=>
     walk_at "r"
     refine BS ?_
     walk_at "r"
     cases D <;> first | (exfalso;simp only[Deed.word] at h2;revert h2;decide +kernel) | skip
     refine AA (d:=_) rfl ?_
     walk_at "r"
     refine AA (d:=_) rfl ?_
     walk_at "r"
     exact fin (ms:=[_,_]) (by simp[Deed.must,Deed.names,Deed.made,Deed.fst,Deed.rest]) rfl
   | false=>
     walk_at "r"
     refine BS ?_
     walk_at "r"
     cases D <;> first | (exfalso;simp only[Deed.word] at h1;revert h1;decide +kernel) | (exfalso;simp only[Deed.word] at h2;revert h2;decide +kernel) | skip
     all_goals
       refine AA (d:=_) rfl ?_
       walk_at "r"
       exact fin (ms:=[_]) (by first | (simp[Deed.must,Deed.names,Deed.made,Deed.fst,Deed.rest];done) | (simp[Deed.must,Deed.names,Deed.made,Deed.fst,Deed.rest,a8J hap];done)) rfl
def IQ:List Str:=["_law_lines", "_law_number"]
def G3:List Str:=["_law_k", "_law_lines", "_law_number"]
def G4:List (Option Nat):=[none,some 0,some 1]
theorem LZ:G3.Nodup:=by decide +kernel
theorem IR:FnScope IQ ["_law_lines", "_law_number"] (AC CD):=⟨rfl,rfl,rfl,by decide +kernel,rfl,by decide +kernel,by decide +kernel⟩
section
local macro_rules | `(tactic| walk_at "cs")=>`(tactic| first | exact @GQ _ _ G3 G4 (AC CD) IQ (by decide +kernel) (by decide +kernel) rfl rfl)
local macro_rules | `(tactic| walk_at "x")=>`(tactic| first | ((with_reducible show PT _ (.Compare _ [.In] ..) _);exact @EB _ _ _ _ _ _ _ _ (@w8 _ K rfl hu) (by walk_at "e") (by walk_at "e") (by with_unfolding_all rfl)))
theorem PQ {f:Addr}{fd:FuncData}(F:Fun K "_law_needed" "_law_needed" CD f fd) (n_range:mg "range"=none) (h__law_made:Has P w K mg base "_law_made" 1 ["_law_deed_here"] DZ) (h__law_must:Has P w K mg base "_law_must" 1 ["_law_deed_here"] CM):FnOk P w K mg base CX0 2 f fd ["_law_lines", "_law_number"] (spD K 2 CC):=by
 refine fnD F IR fun cdv A outer s H E hr=>?_
 have hu:=hr.units
 have nd:=IR.nd
 have n0:=LZ
 refine⟨_,by walk_at "b1", ?_⟩
 clear nd n0
 rintro xs M hl ⟨ls,k,rfl,hg,hk⟩
 obtain⟨l,hlk,hlm,hll,hld⟩:=NI hk
 have hrl:=hg.real l hlm
 have hfew:=hg.few
 walk_at "r"
 refine AI (B8 0) (by simp[G4]) ?_
 refine G8 ?_
 walk_at "r"
 refine⟨by omega,by omega,?_⟩
 refine⟨by rw[j9];exact zQ (show k<=50 by omega) (by decide),cNd (dsL ls) k,id,?_,?_⟩
 · intro d hd M'
   obtain⟨j,hj,rfl⟩:=j8 hd
   obtain⟨a,haj,ham,hal,had⟩:=NI (ls:=ls) (k:=j) (by omega)
   have hra:=hg.real a ham
   walk_at "dl"
   refine⟨rfl,?_⟩
   walk_at "r"
   refine AA (ds:=ls.map BN) (AB hal) ?_
   walk_at "r"
   refine AA (ds:=[.str a.1,a.2.d]) (d:=a.2.d) rfl ?_
   walk_at "r"
   refine cE hra ?_
   walk_at "r"
   refine AA (ds:=ls.map BN) (AB hll) ?_
   walk_at "r"
   refine AA (ds:=[.str l.1,l.2.d]) (d:=l.2.d) rfl ?_
   walk_at "r"
   refine cF hrl ?_
   refine sK (ds:=l.2.must.map .str) (cJ hra) (BZ fun z hz=>RO hrl hz) ?_
   rw[if_neg nft,j7,nC hg haj hlk]
   refine⟨_,rfl,rfl,?_,fun _=>?_⟩
   · show FI (dsL ls) k j=FI (dsL ls) k ((j:Int)).toNat
     rw[a4K]
   · walk_at "r"
     exact⟨rfl,rfl⟩
 · rw[VX]
   refine⟨M,zT M,fun ls' k' e=>?_⟩
   simp only[List.cons.injEq,DS.d.injEq,PyData.tuple.injEq,PyData.int.injEq,and_true] at e
   have e1:=J3 e.1
   have e2:k=k':=by omega
   subst e1 e2
   exact⟨rfl,rfl⟩
end
def FL:List Str:=["_law_start_here", "_law_lines", "_law_things", "_law_hand", "_law_deed_here", "_law_one", "_law_place", "_law_number"]
def HI:List Str:=["_law_name", "_law_place", "_law_number"]
def HJ:List (Option Nat):=[none,none,none]
theorem N5:HI.Nodup:=by decide +kernel
def HK:List Str:=["_law_name", "_law_things"]
def HL:List (Option Nat):=[none,some 2]
theorem N6:HK.Nodup:=by decide +kernel
theorem JN:FnScope FL ["_law_start_here", "_law_lines"] (AC C7):=⟨rfl,rfl,rfl,by decide +kernel,rfl,by decide +kernel,by decide +kernel⟩
section
local macro_rules | `(tactic| walk_at "cs")=>`(tactic| first | exact @GQ _ _ HI HJ (AC C7) FL (by decide +kernel) (by decide +kernel) rfl rfl | exact @GQ _ _ HK HL (AC C7) FL (by decide +kernel) (by decide +kernel) rfl rfl)
local macro_rules | `(tactic| walk_at "x")=>`(tactic| first | ((with_reducible show PG _ (.Tuple ..) _);exact @X3 _ K _ _ _ _ (3) rfl rfl (by walk_at "j") (by rfl) (by rfl)) | ((with_reducible show PG _ (.Tuple ..) _);exact @X3 _ K _ _ _ _ (2) rfl rfl (by walk_at "j") (by rfl) (by rfl)) | ((with_reducible show PS _ (.Assign [.Tuple ..] ..) _);exact @RV _ _ _ _ _ _ (by walk_at "e") (by walk_at "g") (by rfl) (by rfl) (by rfl)) | ((with_reducible show PE _ (.Call (.Attribute _ (a0Q "get") _) ..) _);exact @NT _ _ _ _ _ _ _ _ _ hu1 (by walk_at "e") (by walk_at "e") (by walk_at "e") (@L2.M2.mk _ _ _ _ _ _ _ rfl rfl rfl rfl)) | ((with_reducible show PG _ (.Tuple ..) _);exact @ZE _ K _ _ _ _ (2) rfl rfl (by walk_at "j") (by rfl) (by rfl)) | ((with_reducible show PS _ (.Assign [.Subscript ..] ..) _);exact @S4 _ _ _ _ _ _ _ _ _ hu1 (by walk_at "e") (by walk_at "e") (by walk_at "e") (by rfl)) | ((with_reducible show PE _ (.Call (.Attribute _ (a0Q "pop") _) ..) _);exact @UC _ _ _ _ _ _ _ (by walk_at "e") (by walk_at "e") (@L2.M1.mk _ _ _ _ _ _ rfl rfl rfl rfl)))
local macro_rules | `(tactic| walk_at "y")=>`(tactic| first | ((with_reducible show PE _ (.Call (.Name (a0Q "dict") _) ..) _);exact @IT _ _ _ _ _ _ _ _ _ (@uL _ K rfl rfl) (by rfl) n_dict PyProof.Rows.boot_dict (by walk_at "a") (by decide) (by decide) (by rfl) (by rfl)) | ((with_reducible show PE _ (.Subscript ..) _);exact @F3 _ _ _ _ _ _ hu1 (@pv _ 1 _ _ (by rfl) (by walk_at "lc") (by decide) (by decide)) (@pv _ 0 _ _ (by rfl) (by walk_at "lc") (by decide) (by decide)) (fun _ _=>rfl)))
theorem QC {f:Addr}{fd:FuncData}(F:Fun K "_law_world" "_law_world" C7 f fd) (n_dict:mg "dict"=none) (n_sorted:mg "sorted"=none) (n_tuple:mg "tuple"=none):FnOk P w K mg base CX0 1 f fd ["_law_start_here", "_law_lines"] (spD K 2 FZ):=by
 refine fnD F JN fun cdv A outer s H E hr=>?_
 have hu:=hr.units
 have hu1:=zQ (a2Q (show 1<=64 by decide) _) hu
 have nd:=JN.nd
 have n0:=N5
 have n1:=N6
 refine⟨_,by walk_at "b2", ?_⟩
 clear nd n0 n1
 rintro xs M hl ⟨w,ls,rfl,hP⟩
 have hw:=hP.fine
 have hlen:=hP.few
 have hdl:(dsL ls).length=ls.length:=zX _
 have h60:w.length < 60:=by omega
 walk_at "r"
 refine AI (O1 (CF (CF (CF O0)))) (by simp[HJ]) ?_
 refine EC ?_
 walk_at "r"
 refine⟨by rw[zX];exact zP h60 (by decide),fun _=>true,fun d=>.tuple [oQ d,rT d],?_,?_⟩
 · intro d hd M'
   obtain⟨t,ht,rfl⟩:=zL.mp hd
   rw[show thD t = .tuple [.str t.1,.int t.2.1,.int t.2.2] from rfl]
   walk_at "r"
   refine⟨rfl,?_⟩
   walk_at "dl"
   refine⟨rfl,rfl,fun _=>?_⟩
   walk_at "r"
   exact⟨rfl,rfl⟩
 rw[SW,show(w.map thD).map (fun d=>.tuple [oQ d,rT d])=(tsD w).map ZJ by unfold tsD;rw[zD,zD];rfl]
 walk_at "r"
 refine Y0 (by unfold tsD;rw[zD];exact hw.1.nodup) (by unfold tsD;rw[zX];exact zN (xR h60) (by decide)) fun p hp=>?_
 walk_at "wks"
 refine GB (fun ρ1 M1=>M1=M.put p (tsO (dsT w (dsL ls)))/\∃x1 x2 x3 x4 x5:Option DS,ρ1=[some (.d (wD w)),some (.d (AO ls)),some (.loc p),x1,x2,x3,x4,x5]) ?_ ?_
 · refine JT ?_
   refine EC ?_
   walk_at "r"
   refine⟨fun k ρ1 M1=>k<=ls.length/\M1=M.put p (tsO (dsT w ((dsL ls).take k)))/\∃x1 x2 x3 x4 x5:Option DS,ρ1=[some (.d (wD w)),some (.d (AO ls)),some (.loc p),x1,x2,x3,x4,x5],⟨xT _,rfl,_,_,_,_,_,rfl⟩,?_,?_⟩
   · rintro k d ρ1 M1 hd ⟨hk,rfl,x1,x2,x3,x4,x5,rfl⟩
     have hkl:k < ls.length:=by have:=(yT.mp hd).1;simpa using this
     obtain⟨⟨hnd,D⟩,hlk,-,hll,hD⟩:=NI hkl
     rw[hll] at hd
     obtain rfl:=Option.some.inj hd
     obtain⟨nd,e⟩:=T4 hP.book hw hlen k (by omega)
     obtain⟨f1,f2,f3⟩:=J2 hP.book hw hlen (show k<=(dsL ls).length by omega)
     have hlT:(dsT w ((dsL ls).take k)).length=(wsF w (dsL ls) k).length:=by rw[← e,(B3 _).length_eq]
     obtain⟨g,-⟩:=ZX nd e (f3 _ hD) (by omega)
     have hfin:=VY (w:=w) hD
     generalize dsT w ((dsL ls).take k)=T at *
     have h64:T.length < 60:=by omega
     have hst:=CL g.2.2
     dsimp only at g hst hfin ⊢
     walk_at "r"
     cases D with
     | put x pl k=>
       have hv:AE T x=none:=D7.mpr (fun q=>((hst x (by simp[Deed.names])).mp q) (by simp[Deed.made]))
       rw[show Deed.d (Deed.put x pl k) = .tuple [.str (a0Q "put"),.str x,.int pl,.int k] from rfl]
       walk_at "r"
       refine AA (d:=.str x) (AB (j:=1) rfl) ?_
       walk_at "r"
       refine EM ?_
       refine DD ?_
       walk_at "r"
       refine⟨p,tsD T,rfl,zU,?_⟩
       walk_at "r"
       refine⟨_,tsD T,rfl,zU,?_⟩
       rw[show(AU (tsD T) x).getD (a9V [.int 0,.int 0]) = .tuple [.int 0,.int 0] by rw[AN,hv];rfl]
       walk_at "r"
       refine AA (d:=.str (a0Q "put")) rfl ?_
       walk_at "r"
       refine AD (t:=true) (by decide +kernel) ?_
       walk_at "r"
       refine CH ?_
       walk_at "r"
       refine AA (d:=.int pl) (AB (j:=2) rfl) ?_
       walk_at "r"
       refine AA (d:=.int k) (AB (j:=3) rfl) ?_
       walk_at "r"
       refine⟨p,tsD (T),x,pcD pl k,rfl,rfl,rfl,zU,CT (by omega),?_⟩
       rw[yI,CI]
       exact⟨by omega,by rw[hfin];rfl,_,_,_,_,_,rfl⟩
     | take x=>
       obtain⟨v,hv⟩:=AT ((hst x (by simp[Deed.names])).mpr (by simp[Deed.made]))
       rw[show Deed.d (Deed.take x) = .tuple [.str (a0Q "take"),.str x] from rfl]
       walk_at "r"
       refine AA (d:=.str x) (AB (j:=1) rfl) ?_
       walk_at "r"
       refine EM ?_
       refine DD ?_
       walk_at "r"
       refine⟨p,tsD T,rfl,zU,?_⟩
       walk_at "r"
       refine⟨_,tsD T,rfl,zU,?_⟩
       rw[show(AU (tsD T) x).getD (a9V [.int 0,.int 0]) = .tuple [.int v.1,.int v.2] by rw[AN,hv];rfl]
       walk_at "r"
       refine AA (d:=.str (a0Q "take")) rfl ?_
       walk_at "r"
       refine AD (t:=false) (by decide +kernel) ?_
       walk_at "r"
       refine AA (d:=.str (a0Q "take")) rfl ?_
       walk_at "r"
       refine AD (t:=true) (by decide +kernel) ?_
       walk_at "r"
       refine ND ?_
       walk_at "r"
       refine⟨p,tsD (T),rfl,zU,?_⟩
       walk_at "r"
       refine⟨tsD (T),x,pcD v.1 v.2,rfl,zU,by rw[AN,hv];rfl,?_⟩
       rw[yI,FU]
       exact⟨by omega,by rw[hfin];rfl,_,_,_,_,_,rfl⟩
     | move x pl=>
       obtain⟨v,hv⟩:=AT ((hst x (by simp[Deed.names])).mpr (by simp[Deed.made]))
       rw[show Deed.d (Deed.move x pl) = .tuple [.str (a0Q "move"),.str x,.int pl] from rfl]
       walk_at "r"
       refine AA (d:=.str x) (AB (j:=1) rfl) ?_
       walk_at "r"
       refine EM ?_
       refine DD ?_
       walk_at "r"
       refine⟨p,tsD T,rfl,zU,?_⟩
       walk_at "r"
       refine⟨_,tsD T,rfl,zU,?_⟩
       rw[show(AU (tsD T) x).getD (a9V [.int 0,.int 0]) = .tuple [.int v.1,.int v.2] by rw[AN,hv];rfl]
       walk_at "r"
       refine AA (d:=.str (a0Q "move")) rfl ?_
       walk_at "r"
       refine AD (t:=false) (by decide +kernel) ?_
       walk_at "r"
       refine AA (d:=.str (a0Q "move")) rfl ?_
       walk_at "r"
       refine AD (t:=false) (by decide +kernel) ?_
       walk_at "r"
       refine AA (d:=.str (a0Q "move")) rfl ?_
       walk_at "r"
       refine AD (t:=true) (by decide +kernel) ?_
       walk_at "r"
       refine CH ?_
       walk_at "r"
       refine AA (d:=.int pl) (AB (j:=2) rfl) ?_
       walk_at "r"
       refine⟨p,tsD (T),x,pcD pl v.2,rfl,rfl,rfl,zU,CT (by omega),?_⟩
       rw[yI,CI]
       exact⟨by omega,by rw[hfin];simp only[doT,hv],_,_,_,_,_,rfl⟩
     | count x k=>
       obtain⟨v,hv⟩:=AT ((hst x (by simp[Deed.names])).mpr (by simp[Deed.made]))
       rw[show Deed.d (Deed.count x k) = .tuple [.str (a0Q "count"),.str x,.int k] from rfl]
       walk_at "r"
       refine AA (d:=.str x) (AB (j:=1) rfl) ?_
       walk_at "r"
       refine EM ?_
       refine DD ?_
       walk_at "r"
       refine⟨p,tsD T,rfl,zU,?_⟩
       walk_at "r"
       refine⟨_,tsD T,rfl,zU,?_⟩
       rw[show(AU (tsD T) x).getD (a9V [.int 0,.int 0]) = .tuple [.int v.1,.int v.2] by rw[AN,hv];rfl]
       walk_at "r"
       refine AA (d:=.str (a0Q "count")) rfl ?_
       walk_at "r"
       refine AD (t:=false) (by decide +kernel) ?_
       walk_at "r"
       refine AA (d:=.str (a0Q "count")) rfl ?_
       walk_at "r"
       refine AD (t:=false) (by decide +kernel) ?_
       walk_at "r"
       refine AA (d:=.str (a0Q "count")) rfl ?_
       walk_at "r"
       refine AD (t:=false) (by decide +kernel) ?_
       walk_at "r"
       refine AA (d:=.str (a0Q "count")) rfl ?_
       walk_at "r"
       refine AD (t:=true) (by decide +kernel) ?_
       walk_at "r"
       refine CH ?_
       walk_at "r"
       refine AA (d:=.int k) (AB (j:=2) rfl) ?_
       walk_at "r"
       refine⟨p,tsD (T),x,pcD v.1 (v.2+k),rfl,rfl,rfl,zU,CT (by omega),?_⟩
       rw[yI,CI]
       exact⟨by omega,by rw[hfin];simp only[doT,GI,hv],_,_,_,_,_,rfl⟩
     | name x y=>
       obtain⟨v,hv⟩:=AT ((hst x (by simp[Deed.names])).mpr (by simp[Deed.made];exact fun e=>g.2.1.2.1 e.symm))
       rw[show Deed.d (Deed.name x y) = .tuple [.str (a0Q "name"),.str x,.str y] from rfl]
       walk_at "r"
       refine AA (d:=.str x) (AB (j:=1) rfl) ?_
       walk_at "r"
       refine EM ?_
       refine DD ?_
       walk_at "r"
       refine⟨p,tsD T,rfl,zU,?_⟩
       walk_at "r"
       refine⟨_,tsD T,rfl,zU,?_⟩
       rw[show(AU (tsD T) x).getD (a9V [.int 0,.int 0]) = .tuple [.int v.1,.int v.2] by rw[AN,hv];rfl]
       walk_at "r"
       refine AA (d:=.str (a0Q "name")) rfl ?_
       walk_at "r"
       refine AD (t:=false) (by decide +kernel) ?_
       walk_at "r"
       refine AA (d:=.str (a0Q "name")) rfl ?_
       walk_at "r"
       refine AD (t:=false) (by decide +kernel) ?_
       walk_at "r"
       refine AA (d:=.str (a0Q "name")) rfl ?_
       walk_at "r"
       refine AD (t:=false) (by decide +kernel) ?_
       walk_at "r"
       refine AA (d:=.str (a0Q "name")) rfl ?_
       walk_at "r"
       refine AD (t:=false) (by decide +kernel) ?_
       walk_at "r"
       refine AA (d:=.str (a0Q "name")) rfl ?_
       walk_at "r"
       refine AD (t:=true) (by decide +kernel) ?_
       walk_at "r"
       refine CH ?_
       refine ND ?_
       walk_at "r"
       refine⟨p,tsD (T),rfl,zU,?_⟩
       walk_at "r"
       refine⟨tsD (T),x,pcD v.1 v.2,rfl,zU,by rw[AN,hv];rfl,?_⟩
       rw[yI,FU]
       walk_at "r"
       refine AA (d:=.str y) (AB (j:=2) rfl) ?_
       walk_at "r"
       refine⟨p,tsD (E8 T x),y,pcD v.1 v.2,rfl,rfl,rfl,zU,CT (zQ (yJ _ _) (by omega)),?_⟩
       rw[yI,CI]
       exact⟨by omega,by rw[hfin];simp only[doT,hv],_,_,_,_,_,rfl⟩
     | split x y pl k=>
       obtain⟨v,hv⟩:=AT ((hst x (by simp[Deed.names])).mpr (by simp[Deed.made];exact fun e=>g.2.1.2.1 e.symm))
       rw[show Deed.d (Deed.split x y pl k) = .tuple [.str (a0Q "split"),.str x,.str y,.int pl,.int k] from rfl]
       walk_at "r"
       refine AA (d:=.str x) (AB (j:=1) rfl) ?_
       walk_at "r"
       refine EM ?_
       refine DD ?_
       walk_at "r"
       refine⟨p,tsD T,rfl,zU,?_⟩
       walk_at "r"
       refine⟨_,tsD T,rfl,zU,?_⟩
       rw[show(AU (tsD T) x).getD (a9V [.int 0,.int 0]) = .tuple [.int v.1,.int v.2] by rw[AN,hv];rfl]
       walk_at "r"
       refine AA (d:=.str (a0Q "split")) rfl ?_
       walk_at "r"
       refine AD (t:=false) (by decide +kernel) ?_
       walk_at "r"
       refine AA (d:=.str (a0Q "split")) rfl ?_
       walk_at "r"
       refine AD (t:=false) (by decide +kernel) ?_
       walk_at "r"
       refine AA (d:=.str (a0Q "split")) rfl ?_
       walk_at "r"
       refine AD (t:=false) (by decide +kernel) ?_
       walk_at "r"
       refine AA (d:=.str (a0Q "split")) rfl ?_
       walk_at "r"
       refine AD (t:=false) (by decide +kernel) ?_
       walk_at "r"
       refine AA (d:=.str (a0Q "split")) rfl ?_
       walk_at "r"
       refine AD (t:=false) (by decide +kernel) ?_
       walk_at "r"
       refine AA (d:=.str (a0Q "split")) rfl ?_
       walk_at "r"
       refine AD (t:=true) (by decide +kernel) ?_
       walk_at "r"
       refine CH ?_
       walk_at "r"
       refine AA (d:=.int k) (AB (j:=4) rfl) ?_
       walk_at "r"
       refine⟨p,tsD (T),x,pcD v.1 (v.2 - k),rfl,rfl,rfl,zU,CT (by omega),?_⟩
       rw[yI,CI]
       walk_at "r"
       refine CH ?_
       walk_at "r"
       refine AA (d:=.int pl) (AB (j:=3) rfl) ?_
       walk_at "r"
       refine AA (d:=.int k) (AB (j:=4) rfl) ?_
       walk_at "r"
       refine AA (d:=.str y) (AB (j:=2) rfl) ?_
       walk_at "r"
       refine⟨p,tsD (EY T x v.1 (v.2 - k)),y,pcD pl k,rfl,rfl,rfl,zU,CT (by have:=wA (ts:=T) (x:=x) (p:=v.1) (c:=v.2 - k);omega),?_⟩
       rw[yI,CI]
       exact⟨by omega,by rw[hfin];simp only[doT,GI,hv,Int.sub_eq_add_neg],_,_,_,_,_,rfl⟩
     | join x y=>
       obtain⟨v,hv⟩:=AT ((hst x (by simp[Deed.names])).mpr (by simp[Deed.made]))
       obtain⟨u,hu'⟩:=AT ((hst y (by simp[Deed.names])).mpr (by simp[Deed.made]))
       rw[show Deed.d (Deed.join x y) = .tuple [.str (a0Q "join"),.str x,.str y] from rfl]
       walk_at "r"
       refine AA (d:=.str x) (AB (j:=1) rfl) ?_
       walk_at "r"
       refine EM ?_
       refine DD ?_
       walk_at "r"
       refine⟨p,tsD T,rfl,zU,?_⟩
       walk_at "r"
       refine⟨_,tsD T,rfl,zU,?_⟩
       rw[show(AU (tsD T) x).getD (a9V [.int 0,.int 0]) = .tuple [.int v.1,.int v.2] by rw[AN,hv];rfl]
       walk_at "r"
       refine AA (d:=.str (a0Q "join")) rfl ?_
       walk_at "r"
       refine AD (t:=false) (by decide +kernel) ?_
       walk_at "r"
       refine AA (d:=.str (a0Q "join")) rfl ?_
       walk_at "r"
       refine AD (t:=false) (by decide +kernel) ?_
       walk_at "r"
       refine AA (d:=.str (a0Q "join")) rfl ?_
       walk_at "r"
       refine AD (t:=false) (by decide +kernel) ?_
       walk_at "r"
       refine AA (d:=.str (a0Q "join")) rfl ?_
       walk_at "r"
       refine AD (t:=false) (by decide +kernel) ?_
       walk_at "r"
       refine AA (d:=.str (a0Q "join")) rfl ?_
       walk_at "r"
       refine AD (t:=false) (by decide +kernel) ?_
       walk_at "r"
       refine AA (d:=.str (a0Q "join")) rfl ?_
       walk_at "r"
       refine AD (t:=false) (by decide +kernel) ?_
       walk_at "r"
       refine CH ?_
       walk_at "r"
       refine ND ?_
       walk_at "r"
       refine⟨p,tsD (T),rfl,zU,?_⟩
       walk_at "r"
       refine AA (d:=.str y) (AB (j:=2) rfl) ?_
       refine⟨tsD (T),y,pcD u.1 u.2,rfl,zU,by rw[AN,hu'];rfl,?_⟩
       rw[yI,FU]
       walk_at "r"
       refine AA (ds:=[.int u.1,.int u.2]) (d:=.int u.2) (AB (j:=1) rfl) ?_
       walk_at "r"
       refine⟨p,tsD (E8 T y),x,pcD v.1 (v.2+u.2),rfl,rfl,rfl,zU,CT (zQ (yJ _ _) (by omega)),?_⟩
       rw[yI,CI]
       exact⟨by omega,by rw[hfin];simp only[doT,GI,hv,hu',jA g.2.1.2.1],_,_,_,_,_,rfl⟩
   · rintro ρ1 M1 ⟨hk,h⟩
     rw[zX,← hdl,a3W] at h
     exact h
 · rintro ρ1 M1 ⟨rfl,x1,x2,x3,x4,x5,rfl⟩
   obtain⟨nd,e⟩:=T4 hP.book hw hlen _ (zR _)
   rw[a3W] at nd e
   obtain⟨f1,f2,-⟩:=J2 hP.book hw hlen (zR _)
   have hlT:(dsT w (dsL ls)).length=(wsF w (dsL ls) (dsL ls).length).length:=by rw[← e,(B3 _).length_eq]
   have e:B0 (dsT w (dsL ls))=D9 w (dsL ls):=by rw[e];unfold wsF;rw[a3W]
   generalize dsT w (dsL ls)=T at *
   walk_at "r"
   refine GD (B8 0) (by simp[HL]) ?_
   refine BU ?_
   walk_at "r"
   refine V4 (ts:=tsD T) zU (by unfold tsD;rw[zX];omega) fun ss hp2 hs=>?_
   rw[show(tsD T).map (·.1)=T.map (·.1) by unfold tsD;rw[zD];rfl] at hp2
   have hlen2:ss.length=T.length:=by have:=hp2.length_eq;simpa using this
   refine⟨_,rfl,by rw[zX,hlen2];exact zP (show _ < 64 by omega) (by decide),fun _=>true,RD T,?_,?_⟩
   · rintro d hd A acc M' hA rfl
     obtain⟨s,hs',rfl⟩:=zL.mp hd
     obtain⟨t,ht,et⟩:=zL.mp (hp2.mem_iff.mp hs')
     have hlook:AE T s=some t.2:=by rw[← et];exact CS nd ht
     have hpA:p≠A:=fun e=>by rw[e,zU] at hA;cases hA
     walk_at "r"
     refine⟨rfl,?_⟩
     walk_at "dl"
     refine⟨rfl,rfl,fun _=>?_⟩
     walk_at "r"
     refine CP ?_
     walk_at "r"
     refine⟨p,tsD T,s,pcD t.2.1 t.2.2,rfl,rfl,by rw[yH hpA];exact zU,by rw[AN,hlook];rfl,?_⟩
     refine FP (yD rfl) ?_
     refine⟨?_,rfl⟩
     simp only[RD,hlook]
     rfl
   · rw[SW,RE nd hp2 hs,e]
     walk_at "r"
     refine IV ?_
     refine⟨M,(zT M).put hp,fun w' ls' e'=>?_⟩
     simp only[List.cons.injEq,DS.d.injEq,PyData.tuple.injEq,and_true] at e'
     obtain⟨e1,e2⟩:=e'
     obtain rfl:=OT e1
     obtain rfl:=J3 e2
     exact⟨rfl,rfl⟩
end
def N7:List Str:=["_law_book_here", "_law_number", "_law_caught", "e"]
theorem E7:FnScope N7 ["_law_book_here", "_law_number"] (AC D3):=⟨rfl,rfl,rfl,by decide +kernel,rfl,by decide +kernel,by decide +kernel⟩
section
local macro_rules | `(tactic| walk_at "x")=>`(tactic| first | ((with_reducible show PS _ (.Try ..) _);exact @sG _ _ _ (3) _ _ _ _ _ _ _ _ _ _ rfl rfl rfl E7.nd rfl rfl rfl t_S (fun pn R=>(by walk_at "q")) (fun a=>(by walk_at "q")) (by decide)) | ((with_reducible show PE _ (.Name ..) _);exact @lP _ _ _ _ rfl q_NoLine (by decide)) | ((with_reducible show PE _ (.Attribute ..) _);exact @uQ _ K _ _ _ _ rfl (by walk_at "e") rfl))
local macro_rules | `(tactic| walk_at "y")=>`(tactic| first | ((with_reducible show PE _ (.Call (.Name (a0Q "isinstance") _) ..) _);exact @CB _ _ _ _ _ _ _ _ _ (@v6 _ K rfl) (by rfl) n_isinstance PyProof.Rows.boot_isinstance (@RW _ _ _ _ _ (@pv _ 2 _ _ (by rfl) (by walk_at "lc") (by decide) (by decide)) (@RW _ _ _ _ _ (by walk_at "e") (@dJ _) (by rfl)) (by rfl)) (by decide) (by decide) (by rfl) (by rfl)) | ((with_reducible show PE _ (.Compare _ [.Eq] ..) _);exact @G6 _ _ _ _ _ _ _ _ (@w9 _ K rfl hu) (by walk_at "e") (by walk_at "e") (@EG _ _ (by decide) (by decide))))
theorem N8 {f:Addr}{fd:FuncData}{c_S c_NoLine:Addr}(F:Fun K "_law_refused" "_law_refused" D3 f fd) (n_bool:mg "bool"=none) (n_isinstance:mg "isinstance"=none) (q_NoLine:mg "NoLine"=some (.ref c_NoLine)) (t_S:mg "StrikeError"=some (.ref c_S)) (u_S:XTop K c_S) (m_N:XM K c_NoLine c_S) (kt_N:XKit K c_NoLine) (kn_N:a3Q K (.ref c_NoLine) (.ref c_NoLine)=some true) (na_N:L8 K c_NoLine "line") (kz_N:a3Q K (.type "NoneType") (.ref c_NoLine)=some false) (h_needs:HasX P w K mg base "needs" 4 ["book", "number"] (GN c_NoLine)):FnOk P w K mg base CX0 5 f fd ["_law_book_here", "_law_number"] (spD K 2 CN):=by
 refine fnD F E7 fun cdv A outer s H E hr=>?_
 have hu:=hr.units
 have nd:=E7.nd
 refine⟨_,by walk_at "b2", ?_⟩
 clear nd
 rintro xs M hl ⟨w,ls,d,rfl,hg,hsh⟩
 have inj:∀(b:Bool) (M2:Own),M2.Sub M->K1 ls.length d = !b->∃M3:Own,M3.Sub M/\CN.post [.d (AL w ls),.d d] M (.d (.bool b)) M3:=fun b M2 _ hb=>⟨M,zT M,fun w' ls' d' e=>by
   simp only[List.cons.injEq,DS.d.injEq,and_true] at e
   obtain⟨e1,rfl⟩:=e
   obtain rfl:=DC e1
   rw[hb,Bool.not_not]
   exact⟨rfl,rfl⟩⟩
 walk_at "r"
 refine iN fun R=>?_
 walk_at "r"
 refine jJ hg (fun y hn=>?_) fun hd=>?_
 · walk_at "r"
   refine nH kz_N ?_
   walk_at "r"
   exact inj false M (zT M) hn
 refine⟨c_NoLine,rfl,m_N,fun a hM=>?_⟩
 walk_at "r"
 refine nG (n5 zU kt_N kn_N ?_)
 walk_at "r"
 refine ZT ?_
 walk_at "r"
 refine⟨a,c_NoLine,d,rfl,zU,kt_N,na_N,?_⟩
 walk_at "r"
 have fin:∀Q:DS->Own->Prop,Q (.d (.bool true)) (M.put a (.x c_NoLine [(a0Q "line", d)]))->D2 K (nE K) (.d d) (.d d) (M.put a (.x c_NoLine [(a0Q "line", d)])) Q:=fun Q q=>by
   rcases hsh with hs | rfl
   · refine jG (AR hs hs ?_)
     rw[if_neg nft,KH hs]
     exact q
   · exact uX q
 refine fin _ ?_
 walk_at "r"
 refine ZT ?_
 walk_at "r"
 refine⟨a,c_NoLine,d,rfl,zU,kt_N,na_N,?_⟩
 clear fin
 cases d <;> (walk_at "r") <;> exact jG (AR rfl rfl (let ⟨M3,h3,h4⟩:=inj true M (zT M) hd;⟨M3,fun b o e=>(zT M).put hM b o (h3 b o e),h4⟩))
end
def jP:List Str:=["_law_script", "_law_book_here", "_law_lines", "_law_k", "_law_far", "_law_found", "_law_odd"]
def WM:List Str:=["_law_number"]
def WN:List (Option Nat):=[none]
theorem jQ:WM.Nodup:=by decide +kernel
theorem jR:FnScope jP ["_law_script"] (AC W7):=⟨rfl,rfl,rfl,by decide +kernel,rfl,by decide +kernel,by decide +kernel⟩
section
local macro_rules | `(tactic| walk_at "cs")=>`(tactic| first | exact @GQ _ _ WM WN (AC W7) jP (by decide +kernel) (by decide +kernel) rfl rfl)
local macro_rules | `(tactic| walk_at "x")=>`(tactic| first | ((with_reducible show PE _ (.Call (.Name (a0Q "needs") _) ..) _);exact @oI _ K P w mg base _ _ _ _ _ _ _ _ _ rfl rfl rfl rfl rfl (YB h_needs) (hr.mono (by decide)) rfl (by walk_at "a") (by decide) (by rfl) (by rfl)) | ((with_reducible show PE _ (.Dict ..) _);exact @dR _ _))
local macro_rules | `(tactic| walk_at "y")=>`(tactic| first | ((with_reducible show PT _ (.Compare _ [.NotEq] ..) _);exact @EB _ _ _ _ _ _ _ _ (@uW _ K rfl hu) (by walk_at "e") (by walk_at "e") (@EG _ _ (by decide) (by decide))) | ((with_reducible show PE _ (.Call (.Name (a0Q "list") _) ..) _);exact @IT _ _ _ _ _ _ _ _ _ (@uC _ K rfl) (by rfl) n_list PyProof.Rows.boot_list (by walk_at "a") (by decide) (by decide) (by rfl) (by rfl)) | ((with_reducible show PE _ (.Compare _ [.NotEq] ..) _);exact @G6 _ _ _ _ _ _ _ _ (@uW _ K rfl hu) (by walk_at "e") (by walk_at "e") (@EG _ _ (by decide) (by decide))))
theorem sP {f:Addr}{fd:FuncData}{c_NoLine:Addr}(F:Fun K "law" "law" W7 f fd) (n_any:mg "any"=none) (n_bool:mg "bool"=none) (n_int:mg "int"=none) (n_isinstance:mg "isinstance"=none) (n_len:mg "len"=none) (n_list:mg "list"=none) (n_range:mg "range"=none) (n_sum:mg "sum"=none) (n_tuple:mg "tuple"=none) (h_needs:HasX P w K mg base "needs" 4 ["book", "number"] (GN c_NoLine)) (h__law_book:Has P w K mg base "_law_book" 3 ["_law_head", "_law_cells"] IL) (h__law_needed:Has P w K mg base "_law_needed" 2 ["_law_lines", "_law_number"] CC) (h__law_refused:Has P w K mg base "_law_refused" 5 ["_law_book_here", "_law_number"] CN) (h__law_world:Has P w K mg base "_law_world" 1 ["_law_start_here", "_law_lines"] FZ) (h_book_world:Has P w K mg base "book_world" 10 ["book"] CY):FnOk P w K mg base CX0 11 f fd ["_law_script"] (spD K 1 VC):=by
 refine fnD F jR fun cdv A outer s H E hr=>?_
 have hu:=hr.units
 have nd:=jR.nd
 have n0:=jQ
 refine⟨_,by walk_at "b2", ?_⟩
 clear nd n0
 rintro xs M hl ⟨ns,rfl,hns,hbits⟩
 walk_at "r"
 refine D5 ?_
 rw[show E4 (ns.map b4X) none (some 1)=(ns.take 1).map .int from(SH _ 1).trans (by rw[b5K])]
 walk_at "r"
 refine rX ?_
 walk_at "r"
 refine D5 ?_
 rw[show E4 (ns.map b4X) (some 1) (some 31)=((ns.take 31).drop 1).map .int from(SJ _ 1 31).trans (by rw[b9V,b5K])]
 walk_at "r"
 have hb1:xJ (ns.take 1).sum<=2 ^ 21:=by
   match ns,hbits with
   | [],_=>decide
   | a::r,hb=>simp only[List.take_succ_cons,List.take_zero,List.sum_cons,List.sum_nil,Int.add_zero];exact zN (hb a (by simp)) (by decide)
 refine W3 hb1 (fun c hc=>zN (hbits c (b5Z (List.mem_of_mem_drop hc))) (by decide)) (by rw[a5X,a2V];omega) fun w ls hB=>?_
 have hg:=hB.good
 have hfew:=hB.few
 walk_at "r"
 refine AA (ds:=[wD w,AO ls]) (d:=AO ls) rfl ?_
 walk_at "wks"
 refine GB (fun ρ1 M1=>M1=M/\∃x1:Option DS,ρ1=[some (.d (.list (ns.map .int))),some (.d (AL w ls)),some (.d (AO ls)),x1,none,none,none]) ?_ ?_
 · refine JT ?_
   refine G8 ?_
   walk_at "r"
   refine CO ?_
   rw[zX]
   walk_at "r"
   refine⟨by omega,by omega,?_⟩
   refine⟨fun k ρ1 M1=>M1=M/\∃x1:Option DS,ρ1=[some (.d (.list (ns.map .int))),some (.d (AL w ls)),some (.d (AO ls)),x1,none,none,none],⟨rfl,_,rfl⟩,?_,fun ρ1 M1 h=>h⟩
   rintro k d ρ1 M1 hd ⟨rfl,x1,rfl⟩
   obtain⟨k,hk,rfl⟩:=zL.mp (yN hd)
   rw[b2K]
   have hr:=hB.row k
   have hlk:(ls.take k).length<=50:=by rw[a2V];omega
   have hs:=RN (PB hr).1
   walk_at "r"
   refine AA (ds:=[wD w,AO ls]) (d:=wD w) rfl ?_
   walk_at "r"
   refine HR ?_
   rw[SH,← b5K]
   walk_at "r"
   refine MG (ls:=ls.take k) hr hlk ?_
   walk_at "r"
   refine AA (ds:=[wD w,AO ls]) (d:=wD w) rfl ?_
   walk_at "r"
   refine HR ?_
   rw[SH,← b5K]
   walk_at "r"
   refine KJ (ls:=ls.take k) hr ?_
   refine LV (AR hs hs ?_)
   rw[if_pos rfl,KH hs]
   walk_at "r"
   exact⟨rfl,_,rfl⟩
 rintro ρ1 M1 ⟨rfl,x1,rfl⟩
 walk_at "wks"
 refine GB (fun ρ1 M2=>M2=M1/\ρ1=[some (.d (.list (ns.map .int))),some (.d (AL w ls)),some (.d (AO ls)),x1,some (.d (.tuple (MY.map BN))),none,none]) ?_ ?_
 · walk_at "r"
   exact⟨rfl,rfl⟩
 rintro ρ2 M2 ⟨rfl,rfl⟩
 walk_at "wks"
 refine GB (fun ρ1 M1=>M1=M2/\ρ1=[some (.d (.list (ns.map .int))),some (.d (AL w ls)),some (.d (AO ls)),x1,some (.d (.tuple (MY.map BN))),none,none]) ?_ ?_
 · have hr:=hB.farR
   have hs:=RN (PB hr).1
   have hll:(ls++MY).length<=50:=by rw[yY];simp;omega
   have hsz:(ls.map BN).length+(MY.map BN).length<=sizeLine:=by rw[zX];exact zN (show _<=50 by simp;omega) (by decide)
   walk_at "r"
   refine AA (ds:=[wD w,AO ls]) (d:=wD w) rfl ?_
   walk_at "r"
   refine FP hsz ?_
   rw[← xI]
   walk_at "r"
   refine MG (ls:=ls++MY) hr hll ?_
   walk_at "r"
   refine AA (ds:=[wD w,AO ls]) (d:=wD w) rfl ?_
   walk_at "r"
   refine FP hsz ?_
   rw[← xI]
   walk_at "r"
   refine KJ (ls:=ls++MY) hr ?_
   refine LV (AR hs hs ?_)
   rw[if_pos rfl,KH hs]
   walk_at "r"
   exact⟨rfl,rfl⟩
 rintro ρ3 M3 ⟨rfl,rfl⟩
 walk_at "wks"
 refine GB (fun ρ1 M1=>M1=M3/\∃x1 x2:Option DS,ρ1=[some (.d (.list (ns.map .int))),some (.d (AL w ls)),some (.d (AO ls)),x1,some (.d (.tuple (MY.map BN))),x2,none]) ?_ ?_
 · refine JT ?_
   refine G8 ?_
   walk_at "r"
   refine CO ?_
   rw[zX]
   walk_at "r"
   refine⟨by omega,by omega,?_⟩
   refine⟨fun k ρ1 M1=>M1=M3/\∃x1 x2:Option DS,ρ1=[some (.d (.list (ns.map .int))),some (.d (AL w ls)),some (.d (AO ls)),x1,some (.d (.tuple (MY.map BN))),x2,none],⟨rfl,_,_,rfl⟩,?_,fun ρ1 M1 h=>h⟩
   rintro k d ρ1 M1 hd ⟨rfl,x1,x2,rfl⟩
   obtain⟨k,hk,rfl⟩:=zL.mp (yN hd)
   have hk:k < ls.length:=by have:=List.mem_range.mp hk;omega
   rw[b2K]
   walk_at "r"
   refine Y5 hg hk ?_
   rw[show chD (EA (dsL ls) k) = .tuple (IH (EA (dsL ls) k)) from rfl]
   walk_at "r"
   refine fJ ?_
   walk_at "r"
   refine VW hg.any hk ?_
   refine LV (AR (IJ _) (IJ _) ?_)
   rw[if_pos rfl,KH (IJ _)]
   walk_at "r"
   refine AI (B8 0) (by simp[WN]) ?_
   refine EC ?_
   walk_at "r"
   refine⟨?_,fun _=>true,fun _=>.bool false,?_,?_⟩
   · rw[j6]
     exact zQ (zN (yJ _ _) (by rw[xZ];omega:_<=50)) (by decide)
   · intro d hd M'
     obtain⟨i,_,rfl⟩:=zL.mp hd
     walk_at "r"
     refine⟨rfl,?_⟩
     walk_at "dl"
     refine⟨rfl,rfl,fun _=>?_⟩
     walk_at "r"
     exact⟨rfl,rfl⟩
   rw[SW,show(IH (EA (dsL ls) k)).map (fun _=>PyData.bool false)=(a2Z (IH (EA (dsL ls) k)).length false).map .bool by rw[List.map_replicate,List.map_const']]
   walk_at "r"
   refine rE ?_
   rw[show(a2Z (IH (EA (dsL ls) k)).length false).any id=false by rw[List.any_eq_false];intro x hx;rw[a8Q hx];exact nft]
   walk_at "r"
   exact⟨rfl,_,_,rfl⟩
 rintro ρ4 M4 ⟨rfl,y1,y2,rfl⟩
 walk_at "wks"
 refine GB (fun ρ1 M1=>M1=M4/\∃x1 x2:Option DS,ρ1=[some (.d (.list (ns.map .int))),some (.d (AL w ls)),some (.d (AO ls)),y1,some (.d (.tuple (MY.map BN))),x1,x2]) ?_ ?_
 · refine JT ?_
   refine BU ?_
   walk_at "wkd"
   refine CO ?_
   rw[zX]
   walk_at "wkd"
   refine CO ?_
   rw[zX]
   walk_at "wkd"
   refine CO ?_
   rw[zX]
   walk_at "wkd"
   refine⟨fun k ρ1 M1=>M1=M4/\∃x1 x2:Option DS,ρ1=[some (.d (.list (ns.map .int))),some (.d (AL w ls)),some (.d (AO ls)),y1,some (.d (.tuple (MY.map BN))),x1,x2],⟨rfl,_,_,rfl⟩,?_,fun ρ1 M1 h=>h⟩
   rintro k d ρ1 M1 hd ⟨rfl,x1,x2,rfl⟩
   have hm:d∈jK ls.length:=yN hd
   walk_at "r"
   rcases jL hm with rfl | ⟨hno,hsh⟩
   · refine LV (AR rfl rfl ?_)
     walk_at "r"
     exact⟨rfl,_,_,rfl⟩
   · rcases hsh with hs | rfl
     · refine LV (AR hs rfl ?_)
       rw[if_pos rfl]
       cases a0Z d (.int 0) with
       | true=>
         walk_at "r"
         exact⟨rfl,_,_,rfl⟩
       | false=>
         walk_at "r"
         refine ER hg (.inl hs) ?_
         rw[hno]
         walk_at "r"
         exact⟨rfl,_,_,rfl⟩
     · refine uY ?_
       walk_at "r"
       refine ER hg (.inr rfl) ?_
       rw[hno]
       walk_at "r"
       exact⟨rfl,_,_,rfl⟩
 rintro ρ5 M5 ⟨rfl,z1,z2,rfl⟩
 walk_at "r"
 refine ER hg (.inl rfl) ?_
 cases ls with
 | nil=>
   rw[show K1 ([]:List (Str×Deed)).length (.int 0)=false from rfl]
   walk_at "r"
   exact⟨_,zT _,rfl⟩
 | cons l r=>
   rw[show K1 (l::r).length (.int 0)=true from Y3 (m:=0) (Nat.succ_pos _)]
   walk_at "r"
   refine LV (AR (T3 hg) rfl ?_)
   rw[if_pos rfl,cI]
   exact⟨_,zT _,rfl⟩
end
end
end DL
namespace DL
open PySem PySem.Spec L2 XC
local macro_rules | `(tactic| walk_at "b1")=>`(tactic| exact fun _ _ _ _ _ _ us hl=>match us,hl with | [_],_=>rfl)
local macro_rules | `(tactic| walk_at "b2")=>`(tactic| exact fun _ _ _ _ _ _ us hl=>match us,hl with | [_,_],_=>rfl)
local macro_rules | `(tactic| walk_at "b3")=>`(tactic| exact fun _ _ _ _ _ _ us hl=>match us,hl with | [_,_,_],_=>rfl)
theorem sQ {l:PySem.W.OpenLaw}{w:World}{K:Frg}{h:Heap}{mg:Str->Option Value}{fa:Addr}{C_S:Addr}{a_FORMS:Addr}{ep_FORMS:Nat}{tk_FORMS_0 tv_FORMS_0:Tok}{tk_FORMS_1 tv_FORMS_1:Tok}{tk_FORMS_2 tv_FORMS_2:Tok}{tk_FORMS_3 tv_FORMS_3:Tok}{tk_FORMS_4 tv_FORMS_4:Tok}{tk_FORMS_5 tv_FORMS_5:Tok}{tk_FORMS_6 tv_FORMS_6:Tok}{t_LAST_PLACE:Tok}{t_LETTERS:Tok}{t_LONGEST_NAME:Tok}{C_NoLine N_NoLine:Addr}{nm_NoLine q_NoLine:Str}{bs_NoLine sb_NoLine:List Value}{sn_NoLine:List Str}{ab_NoLine:Bool}{co_NoLine:Option Bool}{dd_NoLine:Option Addr}{k0_NoLine k1_NoLine k2_NoLine k3_NoLine k5_NoLine:Option Value}{fc_NoLine:Addr}{odc_NoLine anc_NoLine:Option Addr}{slc_NoLine:Array (Option Value)}{occ_NoLine kVc_NoLine dcc_NoLine pmc_NoLine cdc_NoLine ctc_NoLine:Value}{nm_S q_S:Str}{N_S:Addr}{bs_S sb_S:List Value}{sn_S:List Str}{ab_S:Bool}{co_S:Option Bool}{dd_S:Option Addr}{k0_S k1_S k2_S k3_S k5_S:Option Value}
   (X:K.In h) (G:h.Ns mainGlobals mg) (hfa:mg "law"=some (.ref fa))
   (b0:FnIn K "is_whole" GR)
   (b1:FnIn K "is_name" G0)
   (b2:FnIn K "is_within" F7)
   (b3:FnIn K "is_place" GS)
   (b4:FnIn K "form_of" J5)
   (b5:FnIn K "fits" T9)
   (b6:FnIn K "names_in" GT)
   (b7:FnIn K "is_deed" G1)
   (b8:FnIn K "made_by" J6)
   (b9:FnIn K "must_stand" CZ)
   (b10:FnIn K "by_names" ES)
   (b11:FnIn K "rising_by_names" BD)
   (b12:FnIn K "add_count" F8)
   (b13:FnIn K "refuse_undoable" BR)
   (b14:FnIn K "change" KK)
   (b15:FnIn K "done" TB)
   (b16:FnIn K "back_deed" F9)
   (b17:FnIn K "walked" KL)
   (b18:FnIn K "gone" TC)
   (b19:FnIn K "deeds_of" ET)
   (b20:FnIn K "makers" G2)
   (b21:FnIn K "book_world" ED)
   (b22:FnIn K "is_number" FA)
   (b23:FnIn K "needs" KM)
   (b24:FnIn K "_law_mixed" EE)
   (b25:FnIn K "_law_take" FC)
   (b26:FnIn K "_law_names" C0)
   (b27:FnIn K "_law_deed" E1)
   (b28:FnIn K "_law_after" C6)
   (b29:FnIn K "_law_start" D0)
   (b30:FnIn K "_law_book" FD)
   (b31:FnIn K "_law_made" FE)
   (b32:FnIn K "_law_must" FF)
   (b33:FnIn K "_law_needed" CD)
   (b34:FnIn K "_law_world" C7)
   (b35:FnIn K "_law_refused" D3)
   (b36:FnIn K "law" W7)
   (z_all:a1Q K mainGlobals "all"=some none)
   (z_any:a1Q K mainGlobals "any"=some none)
   (z_bool:a1Q K mainGlobals "bool"=some none)
   (z_dict:a1Q K mainGlobals "dict"=some none)
   (z_divmod:a1Q K mainGlobals "divmod"=some none)
   (z_enumerate:a1Q K mainGlobals "enumerate"=some none)
   (z_int:a1Q K mainGlobals "int"=some none)
   (z_isinstance:a1Q K mainGlobals "isinstance"=some none)
   (z_len:a1Q K mainGlobals "len"=some none)
   (z_list:a1Q K mainGlobals "list"=some none)
   (z_min:a1Q K mainGlobals "min"=some none)
   (z_range:a1Q K mainGlobals "range"=some none)
   (z_sorted:a1Q K mainGlobals "sorted"=some none)
   (z_str:a1Q K mainGlobals "str"=some none)
   (z_sum:a1Q K mainGlobals "sum"=some none)
   (z_tuple:a1Q K mainGlobals "tuple"=some none)
   (z_zip:a1Q K mainGlobals "zip"=some none)
   (y_FORMS:a1Q K mainGlobals "FORMS"=some (some (.ref a_FORMS)))
   (x_FORMS:K.lookup a_FORMS=some { cls:=.type "dict", data:=.dict #[{ hash:=a8W w.params (a0Q "put"),key:=.str (a0Q "put") tk_FORMS_0,val:=.str (a0Q "npk") tv_FORMS_0 },{ hash:=a8W w.params (a0Q "take"),key:=.str (a0Q "take") tk_FORMS_1,val:=.str (a0Q "n") tv_FORMS_1 },{ hash:=a8W w.params (a0Q "move"),key:=.str (a0Q "move") tk_FORMS_2,val:=.str (a0Q "np") tv_FORMS_2 },{ hash:=a8W w.params (a0Q "count"),key:=.str (a0Q "count") tk_FORMS_3,val:=.str (a0Q "nk") tv_FORMS_3 },{ hash:=a8W w.params (a0Q "name"),key:=.str (a0Q "name") tk_FORMS_4,val:=.str (a0Q "nn") tv_FORMS_4 },{ hash:=a8W w.params (a0Q "split"),key:=.str (a0Q "split") tk_FORMS_5,val:=.str (a0Q "nnpk") tv_FORMS_5 },{ hash:=a8W w.params (a0Q "join"),key:=.str (a0Q "join") tk_FORMS_6,val:=.str (a0Q "nn") tv_FORMS_6 }] ep_FORMS })
   (s_FORMS:(a_FORMS==sysModules)=false)
   (y_LAST_PLACE:a1Q K mainGlobals "LAST_PLACE"=some (some (.int 999 t_LAST_PLACE)))
   (y_LETTERS:a1Q K mainGlobals "LETTERS"=some (some (.str "abcdefghijklmnopqrstuvwxyz" t_LETTERS)))
   (y_LONGEST_NAME:a1Q K mainGlobals "LONGEST_NAME"=some (some (.int 8 t_LONGEST_NAME)))
   (ac_NoLine:a1Q K mainGlobals "NoLine"=some (some (.ref C_NoLine))) (lc_NoLine:K.lookup C_NoLine=some (excClassObj nm_NoLine q_NoLine C_NoLine N_NoLine bs_NoLine (.ref C_S::XC.bmV) true sn_NoLine sb_NoLine ab_NoLine co_NoLine dd_NoLine k0_NoLine k1_NoLine k2_NoLine k3_NoLine k5_NoLine "ValueError.__new__")) (kc_NoLine:a3J K (.ref C_NoLine)=true)
   (ic_NoLine:a8K K (.ref C_NoLine) "__init__"=some (some (.ref fc_NoLine)))
   (fl_NoLine:K.lookup fc_NoLine=some ⟨occ_NoLine,odc_NoLine,.func (a6Q "__init__" "NoLine.__init__" (DF BQ) (BJ BQ) (AC BQ) .none kVc_NoLine dcc_NoLine pmc_NoLine anc_NoLine cdc_NoLine ctc_NoLine),slc_NoLine⟩)
   (cc_NoLine:b4Q K cdc_NoLine "NoLine.__init__"=true) (if_NoLine:PySem.W.isFn K (.ref fc_NoLine)=true) (kf_NoLine:a3J K (.ref fc_NoLine)=true)
   (sa_NoLine:a8K K (.ref C_NoLine) "__setattr__"=some (some (.builtin "object.__setattr__"))) (ta_NoLine:PySem.W.takerIn K C_NoLine "line"=some none)
   (ac_S:a1Q K mainGlobals "StrikeError"=some (some (.ref C_S)))
   (lk_S:K.lookup C_S=some (excClassObj nm_S q_S C_S N_S bs_S XC.bmV true sn_S sb_S ab_S co_S dd_S k0_S k1_S k2_S k3_S k5_S "ValueError.__new__"))
   (kt_N:XKit K C_NoLine)
   (kn_N:a3Q K (.ref C_NoLine) (.ref C_NoLine)=some true)
   (na_N:L8 K C_NoLine "line")
   (kz_N:a3Q K (.type "NoneType") (.ref C_NoLine)=some false) :
   ∃fd:FuncData,(∀(s:Shared) (v:Value),BindsTo s fd ⟨[v],[]⟩ [("_law_script", v)])/\∀base:Heap,K.In base->base.Ns mainGlobals mg->FnOk l.prog w K mg base CX0 11 fa fd ["_law_script"] (spD K 1 VC):=by
 obtain⟨f0,d0,A0⟩:=b0.at X G
 obtain⟨f1,d1,A1⟩:=b1.at X G
 obtain⟨f2,d2,A2⟩:=b2.at X G
 obtain⟨f3,d3,A3⟩:=b3.at X G
 obtain⟨f4,d4,A4⟩:=b4.at X G
 obtain⟨f5,d5,A5⟩:=b5.at X G
 obtain⟨f6,d6,A6⟩:=b6.at X G
 obtain⟨f7,d7,A7⟩:=b7.at X G
 obtain⟨f8,d8,A8⟩:=b8.at X G
 obtain⟨f9,d9,A9⟩:=b9.at X G
 obtain⟨f10,d10,A10⟩:=b10.at X G
 obtain⟨f11,d11,A11⟩:=b11.at X G
 obtain⟨f12,d12,A12⟩:=b12.at X G
 obtain⟨f13,d13,A13⟩:=b13.at X G
 obtain⟨f14,d14,A14⟩:=b14.at X G
 obtain⟨f15,d15,A15⟩:=b15.at X G
 obtain⟨f16,d16,A16⟩:=b16.at X G
 obtain⟨f17,d17,A17⟩:=b17.at X G
 obtain⟨f18,d18,A18⟩:=b18.at X G
 obtain⟨f19,d19,A19⟩:=b19.at X G
 obtain⟨f20,d20,A20⟩:=b20.at X G
 obtain⟨f21,d21,A21⟩:=b21.at X G
 obtain⟨f22,d22,A22⟩:=b22.at X G
 obtain⟨f23,d23,A23⟩:=b23.at X G
 obtain⟨f24,d24,A24⟩:=b24.at X G
 obtain⟨f25,d25,A25⟩:=b25.at X G
 obtain⟨f26,d26,A26⟩:=b26.at X G
 obtain⟨f27,d27,A27⟩:=b27.at X G
 obtain⟨f28,d28,A28⟩:=b28.at X G
 obtain⟨f29,d29,A29⟩:=b29.at X G
 obtain⟨f30,d30,A30⟩:=b30.at X G
 obtain⟨f31,d31,A31⟩:=b31.at X G
 obtain⟨f32,d32,A32⟩:=b32.at X G
 obtain⟨f33,d33,A33⟩:=b33.at X G
 obtain⟨f34,d34,A34⟩:=b34.at X G
 obtain⟨f35,d35,A35⟩:=b35.at X G
 obtain⟨f36,d36,A36⟩:=b36.at X G
 have e:=hfa.symm.trans A36.mg_
 cases e
 have n_all:=a0W X G z_all
 have n_any:=a0W X G z_any
 have n_bool:=a0W X G z_bool
 have n_dict:=a0W X G z_dict
 have n_divmod:=a0W X G z_divmod
 have n_enumerate:=a0W X G z_enumerate
 have n_int:=a0W X G z_int
 have n_isinstance:=a0W X G z_isinstance
 have n_len:=a0W X G z_len
 have n_list:=a0W X G z_list
 have n_min:=a0W X G z_min
 have n_range:=a0W X G z_range
 have n_sorted:=a0W X G z_sorted
 have n_str:=a0W X G z_str
 have n_sum:=a0W X G z_sum
 have n_tuple:=a0W X G z_tuple
 have n_zip:=a0W X G z_zip
 have g_FORMS:∃a,mg "FORMS"=some (.ref a)/\GDict w K a FR:=⟨_,b0Q X G y_FORMS,s_FORMS,by decide +kernel,_,_,x_FORMS,rfl,⟨_,rfl⟩,⟨_,rfl⟩,rfl,⟨_,rfl⟩,⟨_,rfl⟩,rfl,⟨_,rfl⟩,⟨_,rfl⟩,rfl,⟨_,rfl⟩,⟨_,rfl⟩,rfl,⟨_,rfl⟩,⟨_,rfl⟩,rfl,⟨_,rfl⟩,⟨_,rfl⟩,rfl,⟨_,rfl⟩,⟨_,rfl⟩,trivial⟩
 have g_LAST_PLACE:∃t,mg "LAST_PLACE"=some (.int 999 t):=⟨_,b0Q X G y_LAST_PLACE⟩
 have g_LETTERS:∃t,mg "LETTERS"=some (.str "abcdefghijklmnopqrstuvwxyz" t):=⟨_,b0Q X G y_LETTERS⟩
 have g_LONGEST_NAME:∃t,mg "LONGEST_NAME"=some (.int 8 t):=⟨_,b0Q X G y_LONGEST_NAME⟩
 have xc_NoLine:XC.XCls K C_NoLine C_S (.ref fc_NoLine):=⟨⟨_,_,_,_,_,_,_,_,_,_,_,_,_,_,lc_NoLine⟩,ic_NoLine,kc_NoLine⟩
 have Fc_NoLine:=dX (st:=BQ) fl_NoLine cc_NoLine kf_NoLine
 have q_NoLine:=b0Q X G ac_NoLine
 have t_S:=b0Q X G ac_S
 have u_S:XC.XTop K C_S:=⟨⟨_,_,_,_,_,_,_,_,_,_,_,_,_,_,lk_S⟩⟩
 refine⟨d36,fun s v=>?_,fun base _ _=>?_⟩
 · obtain⟨oc,od,kV,doc,pm,an,cdv,ct,osl,e,_,_⟩:=A36.fn.ex
   subst e
   exact .of_eq rfl
 have r_NoLine:HasR l.prog w K mg base "NoLine" "line" C_NoLine C_S:=⟨fc_NoLine,_,["self", "line"],xc_NoLine,if_NoLine,WJ Fc_NoLine xc_NoLine ⟨sa_NoLine,ta_NoLine⟩,Fc_NoLine.binds (ps:=["self", "line"]) fun _ _ _ _ _ _ us hl=>match us,hl with | [_,_],_=>rfl,b0Q X G ac_NoLine⟩
 have m_N:=XC.sC xc_NoLine u_S
 have h_is_whole:Has l.prog w K mg base "is_whole" 1 ["thing"] GA:=A0.has (W9 A0.fn n_bool n_int n_isinstance) (by walk_at "b1")
 have h_is_name:Has l.prog w K mg base "is_name" 1 ["thing"] LG:=A1.has (YC A1.fn n_all n_isinstance n_len n_str g_LETTERS g_LONGEST_NAME) (by walk_at "b1")
 have h_is_within:Has l.prog w K mg base "is_within" 2 ["thing", "low", "high"] CK:=A2.has (TF A2.fn h_is_whole) (by walk_at "b3")
 have h_is_place:Has l.prog w K mg base "is_place" 3 ["thing"] JV:=A3.has (WB A3.fn g_LAST_PLACE h_is_within) (by walk_at "b1")
 have h_form_of:Has l.prog w K mg base "form_of" 1 ["word"] IX:=A4.has (YE A4.fn n_isinstance n_str g_FORMS) (by walk_at "b1")
 have h_fits:Has l.prog w K mg base "fits" 4 ["sign", "part"] XS:=A5.has (nK A5.fn h_is_name h_is_place h_is_whole) (by walk_at "b2")
 have h_names_in:Has l.prog w K mg base "names_in" 2 ["deed"] EN:=A6.has (WE A6.fn h_form_of) (by walk_at "b1")
 have h_is_deed:Has l.prog w K mg base "is_deed" 5 ["thing"] IY:=A7.has (YF A7.fn n_all n_isinstance n_len n_tuple n_zip h_fits h_form_of h_names_in) (by walk_at "b1")
 have h_made_by:Has l.prog w K mg base "made_by" 1 ["deed"] FT:=A8.has (YH A8.fn ) (by walk_at "b1")
 have h_must_stand:Has l.prog w K mg base "must_stand" 3 ["deed"] GG:=A9.has (Q1 A9.fn n_tuple h_made_by h_names_in) (by walk_at "b1")
 have h_by_names:Has l.prog w K mg base "by_names" 1 ["world"] CJ:=A10.has (WF A10.fn ) (by walk_at "b1")
 have h_rising_by_names:Has l.prog w K mg base "rising_by_names" 1 ["things"] B4:=A11.has (K3 A11.fn n_sorted n_tuple) (by walk_at "b1")
 have h_add_count:Has l.prog w K mg base "add_count" 1 ["things", "name", "more"] DQ:=A12.has (TL A12.fn ) (by walk_at "b3")
 have h_refuse_undoable:Has l.prog w K mg base "refuse_undoable" 6 ["things", "deed"] B5:=A13.has (K5 A13.fn h_is_deed h_made_by h_names_in) (by walk_at "b2")
 have h_change:Has l.prog w K mg base "change" 2 ["things", "deed"] IB:=A14.has (cQ A14.fn h_add_count) (by walk_at "b2")
 have h_done:Has l.prog w K mg base "done" 7 ["world", "deed"] OS:=A15.has (nM A15.fn h_by_names h_change h_refuse_undoable h_rising_by_names) (by walk_at "b2")
 have h_back_deed:Has l.prog w K mg base "back_deed" 7 ["world", "deed"] DU:=A16.has (TN A16.fn h_by_names h_refuse_undoable) (by walk_at "b2")
 have h_walked:Has l.prog w K mg base "walked" 8 ["world", "row"] IM:=A17.has (cS A17.fn n_enumerate h_back_deed h_by_names h_done h_rising_by_names) (by walk_at "b2")
 have h_gone:Has l.prog w K mg base "gone" 9 ["world", "row"] P9:=A18.has (nO A18.fn h_walked) (by walk_at "b2")
 have h_deeds_of:Has l.prog w K mg base "deeds_of" 1 ["book"] EF:=A19.has (WI A19.fn n_tuple) (by walk_at "b1")
 have h_makers:Has l.prog w K mg base "makers" 2 ["book"] II:=A20.has (cT A20.fn n_enumerate h_deeds_of h_made_by) (by walk_at "b1")
 have h_book_world:Has l.prog w K mg base "book_world" 10 ["book"] CY:=A21.has (Q5 A21.fn h_deeds_of h_gone) (by walk_at "b1")
 have h_is_number:Has l.prog w K mg base "is_number" 3 ["book", "thing"] DY:=A22.has (TR A22.fn n_len h_is_within) (by walk_at "b2")
 have h_needs:HasX l.prog w K mg base "needs" 4 ["book", "number"] (GN C_NoLine):=A23.hasX (jO A23.fn n_sorted n_tuple r_NoLine h_is_number h_makers h_must_stand) (by walk_at "b2")
 have h__law_mixed:Has l.prog w K mg base "_law_mixed" 1 ["_law_cell"] CQ:=A24.has (Q7 A24.fn ) (by walk_at "b1")
 have h__law_take:Has l.prog w K mg base "_law_take" 1 ["_law_pack", "_law_size"] BI:=A25.has (TV A25.fn n_divmod) (by walk_at "b2")
 have h__law_names:Has l.prog w K mg base "_law_names" 2 ["_law_pack", "_law_amount"] FY:=A26.has (Q8 A26.fn n_range h__law_take) (by walk_at "b2")
 have h__law_deed:Has l.prog w K mg base "_law_deed" 2 ["_law_pack", "_law_some", "_law_spare"] DW:=A27.has (TX A27.fn n_int n_len h__law_take) (by walk_at "b3")
 have h__law_after:Has l.prog w K mg base "_law_after" 1 ["_law_deed_here", "_law_some", "_law_spare"] CV:=A28.has (Q9 A28.fn ) (by walk_at "b3")
 have h__law_start:Has l.prog w K mg base "_law_start" 2 ["_law_pack", "_law_names_here", "_law_amount"] CW:=A29.has (QA A29.fn n_range n_sorted n_tuple h__law_take) (by walk_at "b3")
 have h__law_book:Has l.prog w K mg base "_law_book" 3 ["_law_head", "_law_cells"] IL:=A30.has (TZ A30.fn n_tuple h__law_after h__law_deed h__law_mixed h__law_names h__law_start h__law_take) (by walk_at "b2")
 have h__law_made:Has l.prog w K mg base "_law_made" 1 ["_law_deed_here"] DZ:=A31.has (U1 A31.fn n_len n_min) (by walk_at "b1")
 have h__law_must:Has l.prog w K mg base "_law_must" 1 ["_law_deed_here"] CM:=A32.has (U3 A32.fn ) (by walk_at "b1")
 have h__law_needed:Has l.prog w K mg base "_law_needed" 2 ["_law_lines", "_law_number"] CC:=A33.has (PQ A33.fn n_range h__law_made h__law_must) (by walk_at "b2")
 have h__law_world:Has l.prog w K mg base "_law_world" 1 ["_law_start_here", "_law_lines"] FZ:=A34.has (QC A34.fn n_dict n_sorted n_tuple) (by walk_at "b2")
 have h__law_refused:Has l.prog w K mg base "_law_refused" 5 ["_law_book_here", "_law_number"] CN:=A35.has (N8 A35.fn n_bool n_isinstance q_NoLine t_S u_S m_N kt_N kn_N na_N kz_N h_needs) (by walk_at "b2")
 exact sP A36.fn n_any n_bool n_int n_isinstance n_len n_list n_range n_sum n_tuple h_needs h__law_book h__law_needed h__law_refused h__law_world h_book_world
theorem sR {K:Frg}{H:Hp}{a:Addr}{ns:List Int}(hl:ns.length<=63) (hb:∀i∈ns,xJ i<=2 ^ 20) (hS:SqL K H a (ns.map V.int)):spD K 1 VC [.ref a] H (fun v _=>v = .bl true) fun _ _ _=>False:=by
 refine⟨[.d (.list (ns.map .int))],fun _=>none,rfl,(fun a o e=>nomatch e),⟨.ref a,[],rfl,?_,rfl⟩,⟨ns,rfl,hl,hb⟩,fun x M' v H' post st oa si=>?_⟩
 · unfold SI DV
   refine⟨a,ns.map V.int,rfl,?_,IF⟩
   rcases hS with h | h
   · exact .inl ⟨fun w=>w rfl,h⟩
   · exact .inr h
 · have e:x = .d (.bool true):=post
   subst e
   exact oF si
theorem wC {l:PySem.W.OpenLaw}{q:Program}{loose:List Str}{XP:(Str->Option Value)->Heap->Prop}{YP:World->Heap->Prop}{d:DefRec}{K:Params->Frg}(hn:l.most=some 63) (hdf:d.params.defaults=[])
   (hY:∀(w:World) (h:Heap),YP w h->(K w.params).In h)
   (F:∀(w:World) (mg:Str->Option Value) (fa:Addr) (h:Heap),(K w.params).In h->h.Ns mainGlobals mg->mg d.name=some (.ref fa) ->
     ∃fd:FuncData,(∀(s:Shared) (u:Value),BindsTo s fd ⟨[u],[]⟩ [("_law_script", u)])/\∀base:Heap,(K w.params).In base->base.Ns mainGlobals mg->FnOk l.prog w (K w.params) mg base CX0 11 fa fd ["_law_script"] (spD (K w.params) 1 VC)) :
   PySem.W.WalkO q loose XP YP l.row.toRowW d [] (fun f vs=>PySem.call f vs):=
 L2.g6 (n:=63) (k:=11) (x:= "_law_script") (CX:=fun _=>CX0) (sp:=fun w=>spD (K w.params) 1 VC) hn (by decide) hdf ⟨rfl,by decide,by decide⟩ hY F (fun _ _ a ns hl hb _ hS=>sR hl hb hS) fun _ _ _ _ _ z=>z
end DL
open PySem PySem.W PyProof.Rows
set_option maxRecDepth 100000 in
set_option maxHeartbeats 0 in
theorem PySem.Challenge.cw_struckdeeds_k31_worlds_and_needs_of_book_holds : PySem.Challenge.rw_struckdeeds_k31_worlds_and_needs_of_book.Holds := by
 w_on
 refine PySem.W.holds_law DL.hS fun said=>?_
 refine PySem.W.holds_open (q:=DL.hV) (loose:=[a0Q "FORMS"]) (Xt:=(fun s=>PySem.W.xlAt DL.hV [] s&&PySem.W.recOk (b3Z (b1Z (b3J PySem.Challenge.rw_struckdeeds_k31_worlds_and_needs_of_book))) s)) (XP:=PySem.W.XL DL.hV []) (Yf:=b6W (a5Z DL.hK DL.hA DL.hE)) (Ya:=b6K (a5Z DL.hK DL.hA DL.hE)) (YP:=PySem.W.Hook.says (a5Z DL.hK DL.hA DL.hE)) (N:=4962) DL.hL (PySem.W.Hook.of (a5Z DL.hK DL.hA DL.hE)) (PySem.W.Hook.keeps (a5Z DL.hK DL.hA DL.hE)) (fun s e=>PySem.W.xl_of s (Bool.and_eq_true_iff.mp e).1) PySem.W.XL.keeps (by rfl) (by rfl) (by rfl) (fun s e=>PySem.W.recFacts_of (Bool.and_eq_true_iff.mp e).2) rfl said (by decide +kernel) ⟨rfl,rfl,rfl,rfl,rfl,by decide +kernel⟩ ?hw ?hc
 (case hw=>w_witness2)
 k_fill
 refine DL.wC (l:=PySem.Challenge.rw_struckdeeds_k31_worlds_and_needs_of_book) rfl rfl (fun w h Y=>PySem.W.kIn_of Y) ?F
 case F=>
   intro w mg fa h KX G hmg
   refine' DL.sQ KX G hmg ?b0 ?b1 ?b2 ?b3 ?b4 ?b5 ?b6 ?b7 ?b8 ?b9 ?b10 ?b11 ?b12 ?b13 ?b14 ?b15 ?b16 ?b17 ?b18 ?b19 ?b20 ?b21 ?b22 ?b23 ?b24 ?b25 ?b26 ?b27 ?b28 ?b29 ?b30 ?b31 ?b32 ?b33 ?b34 ?b35 ?b36 ?z_all ?z_any ?z_bool ?z_dict ?z_divmod ?z_enumerate ?z_int ?z_isinstance ?z_len ?z_list ?z_min ?z_range ?z_sorted ?z_str ?z_sum ?z_tuple ?z_zip ?y_FORMS ?x_FORMS ?s_FORMS ?y_LAST_PLACE ?y_LETTERS ?y_LONGEST_NAME ?ac_NoLine ?lc_NoLine ?kc_NoLine ?ic_NoLine ?fl_NoLine ?cc_NoLine ?if_NoLine ?kf_NoLine ?sa_NoLine ?ta_NoLine ?ac_S ?lk_S ?kt_N ?kn_N ?na_N ?kz_N
   all_goals (first | (refine' DL.nI ?fa ?fl ?fc ?fk;(case fa=>k_is);(case fl=>k_is);(case fc=>k_is);(case fk=>k_is)) | skip)
   (case z_all=>k_is)
   (case z_any=>k_is)
   (case z_bool=>k_is)
   (case z_dict=>k_is)
   (case z_divmod=>k_is)
   (case z_enumerate=>k_is)
   (case z_int=>k_is)
   (case z_isinstance=>k_is)
   (case z_len=>k_is)
   (case z_list=>k_is)
   (case z_min=>k_is)
   (case z_range=>k_is)
   (case z_sorted=>k_is)
   (case z_str=>k_is)
   (case z_sum=>k_is)
   (case z_tuple=>k_is)
   (case z_zip=>k_is)
   (case y_FORMS=>k_is)
   (case x_FORMS=>k_is)
   (case s_FORMS=>decide)
   (case y_LAST_PLACE=>k_is)
   (case y_LETTERS=>k_is)
   (case y_LONGEST_NAME=>k_is)
   (case ac_NoLine=>k_is)
   (case lc_NoLine=>k_is)
   (case kc_NoLine=>k_is)
   (case ic_NoLine=>k_is)
   (case fl_NoLine=>k_is)
   (case cc_NoLine=>k_is)
   (case if_NoLine=>k_is)
   (case kf_NoLine=>k_is)
   (case sa_NoLine=>k_is)
   (case ta_NoLine=>k_is)
   (case ac_S=>k_is)
   (case lk_S=>k_is)
   (case kt_N=>exact DL.v7 _)
   (case kn_N=>exact DL.v8 _)
   (case na_N=>exact DL.v9 _)
   (case kz_N=>exact DL.vA _)
#print axioms PySem.Challenge.cw_struckdeeds_k31_worlds_and_needs_of_book_holds
