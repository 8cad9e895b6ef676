/- Of what the proof is made: 5 texts, one behind the other. -/
import Derived.Test.YtkdlcomfpffhhaaGreatDoorRows
import Derived.ChangeSame
import Derived.ChangeOld
import Derived.ProofKit
import Derived.OpenShut
import Derived.Test.YtkdlcomfpffhhaaGreatDoorM3
import Derived.Lib.Strings
import Derived.Deep.RegionHeld3
import Derived.Carry
import Derived.MapKept
import Derived.ChangeMaps4
import Derived.RangeFuncRecord
namespace Go.Proofs.YtkdlcomfpffhhaaGreatDoor
open Go.ChangeShapes Go.WideShapes Go.ChangeAt Go.RowKit
section
variable {H : Type} {enc : TypeId × Value → H} {P : Program} {w : World} {base : Nat} {spare : Nat → Bool} {held : Bool}
end
end Go.Proofs.YtkdlcomfpffhhaaGreatDoor
namespace Go.Proofs.YtkdlcomfpffhhaaGreatDoor
open Go.RowKit
def undL (a b:List UInt8):Bool:=(a++[47]).isPrefixOf b
theorem und_short {a b:ByteArray} (h:b.size≤a.size):undL a.data.toList b.data.toList=false:=by
 cases e:undL a.data.toList b.data.toList
 ·
  rfl
 ·
  have:=(List.isPrefixOf_iff_prefix.1 e).length_le
  have e1:a.data.toList.length=a.size:=by simp
  have e2:b.data.toList.length=b.size:=by simp
  rw [List.length_append] at this
  simp only [List.length_cons,List.length_nil] at this
  omega
theorem und_other {a b:ByteArray} (k:¬ (b.data.toList.take a.size)=a.data.toList):undL a.data.toList b.data.toList=false:=by
 cases e:undL a.data.toList b.data.toList
 ·
  rfl
 ·
  exfalso
  apply k
  obtain ⟨t,ht⟩:=List.isPrefixOf_iff_prefix.1 e
  rw [←ht]
  have e1:a.data.toList.length=a.size:=by simp
  rw [List.append_assoc,←e1,List.take_left']
  rfl
theorem und_byte {a b:ByteArray} (h:a.size<b.size) (k:(b.data.toList.take a.size)=a.data.toList):undL a.data.toList b.data.toList=(b[a.size] == 47):=by
 have e2:b.data.toList.length=b.size:=by simp
 have hl:a.size<b.data.toList.length:=by omega
 have e3:b.data.toList=a.data.toList++(b[a.size] :: b.data.toList.drop (a.size+1)):=by
  have:=List.take_append_drop a.size b.data.toList
  rw [k,List.drop_eq_getElem_cons hl] at this
  exact this.symm
 unfold undL
 rw [e3]
 cases hb:(b[a.size] == 47)
 ·
  cases e:(a.data.toList++[47]).isPrefixOf (a.data.toList++(b[a.size] :: b.data.toList.drop (a.size+1)))
  ·
   rfl
  ·
   have:=List.isPrefixOf_iff_prefix.1 e
   rw [List.prefix_append_right_inj] at this
   obtain ⟨t,ht⟩:=this
   simp only [List.cons_append,List.nil_append,List.cons.injEq] at ht
   rw [←ht.1] at hb
   simp at hb
 ·
  rw [List.isPrefixOf_iff_prefix,List.prefix_append_right_inj]
  rw [beq_iff_eq.1 hb]
  exact ⟨_,rfl⟩
theorem ex_take (b:ByteArray) (k:Nat):(b.extract 0 k).toList=b.data.toList.take k:=by
 rw [Lib.toList_data,Lib.extract_data]; simp
theorem byte_beq (x:UInt8):((x.toNat:Int) == 47)=(x == 47):=by
 cases e:(x == 47)
 ·
  have:¬ x.toNat=47:=fun h=>by rw [UInt8.toNat_inj.1 (show x.toNat=(47:UInt8).toNat from h)] at e; cases e
  simp; omega
 ·
  rw [beq_iff_eq.1 e]; rfl
set_option maxHeartbeats 800000 in
theorem l7Under_any (a b:ByteArray) (w:World) (ha:(a.size:Int)≤1048576) (_:(b.size:Int)≤1048576) :
  Calls Tryz.prog 28 #[.string a,.string b] w fun e w'=>e = .returned (.bool (undL a.data.toList b.data.toList))∧w'=w:=by
 by_cases h:a.size<b.size
 ·
  have hI:(a.size:Int)<(b.size:Int):=by omega
  by_cases k:(b.data.toList.take a.size)=a.data.toList
  ·
   have HU:=hide (und_byte h k)
   have hx:(b.extract 0 a.size).toList=a.toList:=by rw [ex_take,k,Lib.toList_data]
   go_enter Tryz.func28,Tryz.ntmps28
   go_wp2
   go_ret
   exact ⟨ret_bool ((byte_beq _).trans (unhide HU).symm),rfl⟩
  ·
   have HU:=hide (und_other k)
   have hx:¬ (b.extract 0 a.size).toList=a.toList:=fun e=>k (by rw [←ex_take,e,Lib.toList_data])
   go_enter Tryz.func28,Tryz.ntmps28
   go_wp2
   go_ret
   exact ⟨ret_bool (unhide HU).symm,rfl⟩
 ·
  have HU:=hide (und_short (a:=a) (b:=b) (by omega))
  have hI:¬ (a.size:Int)<(b.size:Int):=by omega
  go_enter Tryz.func28,Tryz.ntmps28
  go_wp2
  go_ret
  exact ⟨ret_bool (unhide HU).symm,rfl⟩
theorem wpAnyH_weaken {P:Program} {md:Region.Mode} {ops:Array Oper} {Q:Exit→Act→World→Prop} {S S':World→Prop} (hS:∀ w,S' w→S w):∀ (fuel:Nat) (listed:Array Bool) (a:Act) (w:World),wpAnyH P md ops Q S' fuel listed a w→wpAnyH P md ops Q S fuel listed a w
 | 0,_,_,_,h=>h
 | fuel+1,_,_,_,h=>⟨h.1,fun i hi=>wpOp_mono (fun a' w' h'=>⟨hS _ h'.1,wpAnyH_weaken hS fuel _ a' w' h'.2⟩) (h.2 i hi)⟩
def MapB (w:World) (b:Nat) (es:List (Int×Value)):Prop:=
 w.heap[b]?=some (.map ((es.zipIdx.map fun (x,i)=>({ key:=.int .i64 x.1,val:=x.2,born:=i } : MapEntry)).toArray) es.length)
theorem map_new (w:World):MapB (w.alloc (.map #[] 0)) w.heap.size []:=World.alloc_heap_new w _
theorem findNow_no (k:Int) (d:IntKind) (es:List MapEntry) (i:Nat) (h:∀ e∈es,∃ x,e.key = .int .i64 x∧x≠k):Instr.findNow (.int d) (.int .i64 k) es i=some none:=by
 induction es generalizing i with
 | nil=>rfl
 | cons e es ih=>
  obtain ⟨x,e1,hx⟩:=h e (by simp)
  have:(k == x)=false:=by simpa using fun e=>hx e.symm
  simp only [Instr.findNow,e1,Instr.sameNow,if_true,this]
  exact ih _ (fun e he=>h e (by simp [he]))
theorem ck_any {kt:TypeId} {d:IntKind} (hk:Tryz.prog.underlying kt=some (.int d)) (em:Bool) (k:Int) (w:World) (n:Nat):(Instr.checkKey em (n+1) kt (.int .i64 k)).run Tryz.prog w = .ok () w:=by
 simp [Instr.checkKey,run_underlying hk,Result.andThen]
theorem ck_int {kt:TypeId} {d:IntKind} (hk:Tryz.prog.underlying kt=some (.int d)) (em:Bool) (k:Int) (w:World):(Instr.checkKey em 10000 kt (.int .i64 k)).run Tryz.prog w = .ok () w:=ck_any hk em k w 9999
theorem map_put {t kt et:TypeId} {d:IntKind} (hu:Tryz.prog.underlying t=some (.map kt et)) (hk:Tryz.prog.underlying kt=some (.int d)) (w:World) (b:Nat) (es:List (Int×Value)) (k:Int) (v:Value) (h:MapB w b es) (hn:∀ x∈es,x.1≠k) :
  ∃ w',(Instr.mapUpdate t (.map (some b)) (.int .i64 k) v).run Tryz.prog w = .ok () w'∧MapB w' b (es++[(k,v)])∧w'=w.putObj b (.map (((es++[(k,v)]).zipIdx.map fun (x,i)=>({ key:=.int .i64 x.1,val:=x.2,born:=i } : MapEntry)).toArray) (es++[(k,v)]).length):=by
 have hb:b<w.heap.size:=(Array.getElem?_eq_some_iff.1 h).1
 have hf:Instr.findNow (.int d) (.int .i64 k) (es.zipIdx.map fun (x,i)=>({ key:=.int .i64 x.1,val:=x.2,born:=i } : MapEntry)) 0=some none:=by
  refine findNow_no k d _ 0 (fun e he=>?_)
  obtain ⟨⟨x,i⟩,hx,rfl⟩:=List.mem_map.1 he
  refine ⟨x.1,rfl,hn x ?_⟩
  have:=List.mem_zipIdx hx
  rw [this.2.2]
  exact List.getElem_mem _
 refine ⟨_,?_,?_,rfl⟩
 ·
  unfold MapB at h
  simp [Instr.mapUpdate,run_underlying hu,run_underlying hk,MapKept.run_getObj_map h,ck_int hk,Instr.findKey,hf,MapKept.run_setObj_map _ h,Result.andThen,World.putObj,List.zipIdx_append]
 ·
  unfold MapB
  exact World.putObj_heap_same hb
theorem findNow_yes (k:Int) (d:IntKind) (v:Value) (A:List (Int×Value)):∀ (i:Nat),(k,v)∈A→(A.map Prod.fst).Nodup→∃ j,Instr.findNow (.int d) (.int .i64 k) ((A.zipIdx i).map fun (x,i)=>({ key:=.int .i64 x.1,val:=x.2,born:=i } : MapEntry)) i=some (some (j,v)):=by
 induction A with
 | nil=>intro i h; cases h
 | cons a A ih=>
  intro i h hd
  simp only [List.map_cons,List.nodup_cons] at hd
  rcases List.mem_cons.1 h with rfl | h
  ·
   exact ⟨i,by simp [Instr.findNow,Instr.sameNow]⟩
  ·
   obtain ⟨j,hj⟩:=ih (i+1) h hd.2
   have hne:¬ k=a.1:=fun e=>hd.1 (by rw [←e]; exact List.mem_map_of_mem (f:=Prod.fst) h)
   have hb:(k == a.1)=false:=by simpa using hne
   refine ⟨j,?_⟩
   simp only [List.zipIdx_cons,List.map_cons,Instr.findNow,Instr.sameNow,if_true,hb]
   exact hj
theorem map_get {t kt et:TypeId} {d:IntKind} (hu:Tryz.prog.underlying t=some (.map kt et)) (hk:Tryz.prog.underlying kt=some (.int d)) (w:World) (b:Nat) (es:List (Int×Value)) (k:Int) (v:Value) (co:Bool) (h:MapB w b es) (hm:(k,v)∈es) (hd:(es.map Prod.fst).Nodup) :
  (Instr.lookup t (.map (some b)) (.int .i64 k) co).run Tryz.prog w = .ok (if co then .tuple #[v,.bool true] else v) w:=by
 obtain ⟨j,hj⟩:=findNow_yes k d v es 0 hm hd
 unfold MapB at h
 simp [Instr.lookup,run_underlying hu,run_underlying hk,MapKept.run_getObj_map h,ck_int hk,Instr.findKey,hj,Result.andThen]
theorem map_none {t kt et:TypeId} {d:IntKind} (hu:Tryz.prog.underlying t=some (.map kt et)) (hk:Tryz.prog.underlying kt=some (.int d)) (w:World) (b:Nat) (es:List (Int×Value)) (k:Int) (z:Value) (h:MapB w b es) (hn:∀ x∈es,x.1≠k) (hz:(zeroValue et).run Tryz.prog w = .ok z w) :
  (Instr.lookup t (.map (some b)) (.int .i64 k) true).run Tryz.prog w = .ok (.tuple #[z,.bool false]) w:=by
 have hf:Instr.findNow (.int d) (.int .i64 k) (es.zipIdx.map fun (x,i)=>({ key:=.int .i64 x.1,val:=x.2,born:=i } : MapEntry)) 0=some none:=by
  refine findNow_no k d _ 0 (fun e he=>?_)
  obtain ⟨⟨x,i⟩,hx,rfl⟩:=List.mem_map.1 he
  refine ⟨x.1,rfl,hn x ?_⟩
  have:=List.mem_zipIdx hx
  rw [this.2.2]
  exact List.getElem_mem _
 unfold MapB at h
 simp [Instr.lookup,run_underlying hu,run_underlying hk,MapKept.run_getObj_map h,ck_int hk,Instr.findKey,hf,hz,Result.andThen]
abbrev KVs:=List ((ByteArray×Value)×Nat)
def entV (x:(ByteArray×Value)×Nat):MapEntry:={ key:=.string x.1.1,val:=x.1.2,born:=x.2 }
def firstK:KVs→ByteArray→Option (Nat×Value)
 | [],_=>none
 | x :: l,k=>if k=x.1.1 then some (0,x.1.2) else (firstK l k).map fun q=>(q.1+1,q.2)
def setK:KVs→ByteArray→Value→KVs
 | [],_,_=>[]
 | x :: l,k,v=>if k=x.1.1 then ((k,v),x.2) :: l else x :: setK l k v
def MapV (w:World) (b:Nat) (m:ByteArray→Option Value):Prop:=∃ (kv:KVs) (c:Nat),w.heap[b]?=some (.map (kv.map entV).toArray c)∧∀ p,(firstK kv p).map (·.2)=m p
def putM (m:ByteArray→Option Value) (k:ByteArray) (v:Value):ByteArray→Option Value:=fun q=>if q=k then some v else m q
theorem mapV_new (w:World):MapV (w.alloc (.map #[] 0)) w.heap.size (fun _=>none):=⟨[],0,World.alloc_heap_new w _,fun _=>rfl⟩
theorem MapV.lt {w:World} {b:Nat} {m:ByteArray→Option Value} (h:MapV w b m):b<w.heap.size:=by
 obtain ⟨kv,c,e,_⟩:=h; exact (Array.getElem?_eq_some_iff.1 e).1
theorem MapV.later {w w':World} {b B:Nat} {m:ByteArray→Option Value} (h:MapV w b m) (hb:Below B w w') (hB:b<B):MapV w' b m:=by
 obtain ⟨kv,c,e,k⟩:=h; exact ⟨kv,c,(hb.block b hB).trans e,k⟩
theorem bb_self (k:ByteArray):(k == k)=true:=by
 rw [show (k == k)=(k.data == k.data) from rfl]; simp
theorem bb_no {k x:ByteArray} (h:¬ k=x):(k == x)=false:=by
 rw [show (k == x)=(k.data == x.data) from rfl]
 rw [beq_eq_false_iff_ne]
 exact fun e=>h (ByteArray.ext e)
theorem find_is (k:ByteArray) (kv:KVs) (i:Nat):Instr.findNow .string (.string k) (kv.map entV) i=some ((firstK kv k).map fun q=>(i+q.1,q.2)):=by
 induction kv generalizing i with
 | nil=>rfl
 | cons x kv ih=>
  unfold firstK
  simp only [List.map_cons,Instr.findNow,entV,Instr.sameNow]
  by_cases h:k=x.1.1
  ·
   have e:(k == x.1.1)=true:=by rw [h]; exact bb_self _
   rw [e,if_pos h]; rfl
  ·
   have e:(k == x.1.1)=false:=bb_no h
   rw [e,if_neg h]
   show Instr.findNow .string (.string k) (kv.map entV) (i+1)=_
   rw [ih]
   cases firstK kv k <;> simp; omega
theorem ck_str {kt:TypeId} (hk:Tryz.prog.underlying kt=some .string) (em:Bool) (k:ByteArray) (w:World) (n:Nat):(Instr.checkKey em (n+1) kt (.string k)).run Tryz.prog w = .ok () w:=by
 simp [Instr.checkKey,run_underlying hk,Result.andThen]
theorem first_at {kv:KVs} {k:ByteArray} {i:Nat} {v:Value} (h:firstK kv k=some (i,v)):∃ n,kv[i]?=some ((k,v),n):=by
 induction kv generalizing i with
 | nil=>cases h
 | cons x kv ih=>
  unfold firstK at h
  split at h
  ·
   rename_i e
   simp only [Option.some.injEq,Prod.mk.injEq] at h
   obtain ⟨rfl,rfl⟩:=h
   exact ⟨x.2,by simp [e]⟩
  ·
   obtain ⟨q,hq,e⟩:=Option.map_eq_some_iff.1 h
   simp only [Prod.mk.injEq] at e
   obtain ⟨rfl,rfl⟩:=e
   simpa using ih hq
theorem set_is {kv:KVs} {k:ByteArray} {i:Nat} {v0 v:Value} (h:firstK kv k=some (i,v0)):(kv.map entV).modify i (fun e=>{ e with key:=.string k,val:=v })=(setK kv k v).map entV:=by
 induction kv generalizing i with
 | nil=>cases h
 | cons x kv ih=>
  unfold firstK at h
  unfold setK
  split at h
  ·
   rename_i e
   simp only [Option.some.injEq,Prod.mk.injEq] at h
   obtain ⟨rfl,rfl⟩:=h
   rw [if_pos e]; simp [entV]
  ·
   rename_i e
   obtain ⟨q,hq,e2⟩:=Option.map_eq_some_iff.1 h
   simp only [Prod.mk.injEq] at e2
   obtain ⟨rfl,rfl⟩:=e2
   rw [if_neg e]; simp [ih hq]
theorem first_set {kv:KVs} {k:ByteArray} {r:Nat×Value} {v:Value} (h:firstK kv k=some r) (q:ByteArray):(firstK (setK kv k v) q).map (·.2)=if q=k then some v else (firstK kv q).map (·.2):=by
 induction kv generalizing r with
 | nil=>cases h
 | cons x kv ih=>
  unfold firstK at h
  unfold setK
  split at h
  ·
   rename_i e
   rw [if_pos e]
   unfold firstK
   by_cases hq:q=k
   ·
    simp [hq]
   ·
    have:¬ q=x.1.1:=fun e2=>hq (e2.trans e.symm)
    simp [hq,this]
  ·
   rename_i e
   obtain ⟨r,hr,_⟩:=Option.map_eq_some_iff.1 h
   rw [if_neg e]
   unfold firstK
   by_cases hq:q=x.1.1
   ·
    have:¬ q=k:=fun e2=>e (e2.symm.trans hq)
    rw [if_pos hq,if_neg this,if_pos hq]
   ·
    rw [if_neg hq,if_neg hq]
    have:=ih hr
    simp only [Option.map_map] at this ⊢
    exact this
theorem first_push {kv:KVs} {k:ByteArray} {v:Value} {c:Nat} (h:firstK kv k=none) (q:ByteArray):(firstK (kv++[((k,v),c)]) q).map (·.2)=if q=k then some v else (firstK kv q).map (·.2):=by
 induction kv with
 | nil=>simp only [List.nil_append,firstK]; split <;> simp
 | cons x kv ih=>
  unfold firstK at h
  split at h
  ·
   cases h
  ·
   rename_i e
   have h':firstK kv k=none:=by simpa using h
   simp only [List.cons_append]
   unfold firstK
   by_cases hq:q=x.1.1
   ·
    have:¬ q=k:=fun e2=>e (e2.symm.trans hq)
    rw [if_pos hq,if_neg this,if_pos hq]
   ·
    rw [if_neg hq,if_neg hq]
    have:=ih h'
    simp only [Option.map_map] at this ⊢
    exact this
theorem mapV_put {t kt et:TypeId} (hu:Tryz.prog.underlying t=some (.map kt et)) (hk:Tryz.prog.underlying kt=some .string) (w:World) (b:Nat) (m:ByteArray→Option Value) (k:ByteArray) (v:Value) (h:MapV w b m) :
  ∃ w',(Instr.mapUpdate t (.map (some b)) (.string k) v).run Tryz.prog w = .ok () w'∧MapV w' b (putM m k v)∧∃ es c,w'=w.putObj b (.map es c):=by
 have hb:=h.lt
 obtain ⟨kv,c,e,hm⟩:=h
 have hf:=find_is k kv 0
 cases hx:firstK kv k with
 | none=>
  rw [hx] at hf
  refine ⟨w.putObj b (.map ((kv++[((k,v),c)]).map entV).toArray (c+1)),?_,⟨kv++[((k,v),c)],c+1,World.putObj_heap_same hb,fun p=>?_⟩,_,_,rfl⟩
  ·
   simp [Instr.mapUpdate,run_underlying hu,run_underlying hk,MapKept.run_getObj_map e,ck_str hk,Instr.findKey,hf,MapKept.run_setObj_map _ e,Result.andThen,World.putObj,entV]
  ·
   rw [first_push hx,hm]; rfl
 | some q=>
  obtain ⟨i,v0⟩:=q
  rw [hx] at hf
  obtain ⟨n0,hn0⟩:=first_at hx
  have hkey:((((kv.map entV).toArray)[i]?).map (·.key)).getD (.string k) = .string k:=by simp [hn0,entV]
  have hmod:((kv.map entV).toArray.modify i fun e=>{ e with key:=.string k,val:=v })=((setK kv k v).map entV).toArray:=by
   rw [←set_is hx]; simp
  refine ⟨w.putObj b (.map ((setK kv k v).map entV).toArray c),?_,⟨setK kv k v,c,World.putObj_heap_same hb,fun p=>?_⟩,_,_,rfl⟩
  ·
   have hs:Instr.sameBits 10000 (.string k) (.string k)=true:=by simp [Instr.sameBits,bb_self]
   have hf2:Instr.findNow .string (.string k) (kv.map entV) 0=some (some (i,v0)):=by rw [hf]; simp
   unfold Instr.mapUpdate
   simp only [run_underlying hu,run_underlying hk,MapKept.run_getObj_map e,ck_str hk,Instr.findKey,hf2,Result.andThen,Sem.run_bind,Sem.run_pure,hkey,Instr.keyThatStays,hs,if_true,hmod,MapKept.run_setObj_map _ e]
   rfl
  ·
   rw [first_set hx,hm]; rfl
theorem mapV_get {t kt et:TypeId} (hu:Tryz.prog.underlying t=some (.map kt et)) (hk:Tryz.prog.underlying kt=some .string) (w:World) (b:Nat) (m:ByteArray→Option Value) (k:ByteArray) (v:Value) (h:MapV w b m) (hv:m k=some v) :
  (Instr.lookup t (.map (some b)) (.string k) false).run Tryz.prog w = .ok v w:=by
 obtain ⟨kv,c,e,hm⟩:=h
 have hf:=find_is k kv 0
 have hp:=hm k
 rw [hv] at hp
 obtain ⟨q,hq,hq2⟩:=Option.map_eq_some_iff.1 hp
 obtain ⟨i,v0⟩:=q
 obtain rfl:v0=v:=hq2
 rw [hq] at hf
 simp [Instr.lookup,run_underlying hu,run_underlying hk,MapKept.run_getObj_map e,ck_str hk,Instr.findKey,hf,Result.andThen]
end Go.Proofs.YtkdlcomfpffhhaaGreatDoor
