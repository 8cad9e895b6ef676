/- Of what the proof is made: 4 texts, one behind the other. -/
import Derived.Test.YtkdlcomfpffhhaaGreatDoorRows
import Derived.ChangeSame
import Derived.ChangeOld
import Derived.ProofKit
import Derived.OpenShut
import Derived.Test.YtkdlcomfpffhhaaGreatDoorM3
import Derived.Lib.Strings
import Derived.Carry
import Derived.MapKept
import Derived.ChangeMaps4
import Derived.RangeFuncRecord
set_option linter.unusedSimpArgs false
set_option linter.unusedVariables false
set_option maxHeartbeats 800000
namespace Go.Proofs.YtkdlcomfpffhhaaGreatDoor
open Go.ChangeShapes Go.WideShapes Go.ChangeAt Go.RowKit
section
variable {H : Type} {enc : TypeId × Value → H} {P : Program} {w : World} {base : Nat} {spare : Nat → Bool} {held : Bool}
end
end Go.Proofs.YtkdlcomfpffhhaaGreatDoor
namespace Go.Proofs.YtkdlcomfpffhhaaGreatDoor
open Go.RowKit
def di(a b:List UInt8):Bool:=(a++[47]).isPrefixOf b
theorem ED{a b:ByteArray}(h:b.size<=a.size):di a.data.toList b.data.toList=false:=by
 cases e:di a.data.toList b.data.toList
 · rfl
 ·
  have:=(a3t.1 e).length_le;have e1:a.data.toList.length=a.size:=by simp
  have e2:b.data.toList.length=b.size:=by simp
  rw[a0l]at this;simp only[a0B,a1i]at this;omega
theorem EA{a b:ByteArray}(k:¬ (b.data.toList.take a.size)=a.data.toList):di a.data.toList b.data.toList=false:=by
 cases e:di a.data.toList b.data.toList
 · rfl
 ·
  exfalso;apply k;obtain⟨t,ht⟩:=a3t.1 e;rw[←ht];have e1:a.data.toList.length=a.size:=by simp
  rw[a0U,←e1,a13];rfl
theorem I4{a b:ByteArray}(h:a.size<b.size)(k:(b.data.toList.take a.size)=a.data.toList):di a.data.toList b.data.toList=(b[a.size] == 47):=by
 have e2:b.data.toList.length=b.size:=by simp
 have hl:a.size<b.data.toList.length:=by omega
 have e3:b.data.toList=a.data.toList++(b[a.size] :: b.data.toList.drop (a.size+1)):=by
  have:=a1C a.size b.data.toList;rw[k,List.drop_eq_getElem_cons hl]at this;exact this.symm
 unfold di;rw[e3];cases hb:(b[a.size] == 47)
 ·
  cases e:(a.data.toList++[47]).isPrefixOf (a.data.toList++(b[a.size] :: b.data.toList.drop (a.size+1)))
  · rfl
  · have:=a3t.1 e;rw[List.prefix_append_right_inj]at this;obtain⟨t,ht⟩:=this;simp only[a1h,a04,List.cons.injEq]at ht;rw[←ht.1]at hb;simp at hb
 · rw[a3t,List.prefix_append_right_inj];rw[a3o.1 hb];exact⟨_,rfl⟩
theorem AU(b:ByteArray)(k:Nat):(b.extract 0 k).toList=b.data.toList.take k:=by
 rw[a06,Lib.extract_data];simp
theorem Fw(x:UInt8):((x.toNat:Int) == 47)=(x == 47):=by
 cases e:(x == 47)
 ·
  have:¬ x.toNat=47:=fun h=>by rw[UInt8.toNat_inj.1 (show x.toNat=(47:UInt8).toNat from h)]at e;cases e
  simp;omega
 · rw[a3o.1 e];rfl
theorem wK(a b:ByteArray)(w:World)(ha:(a.size:Int)<=1048576)(_:(b.size:Int)<=1048576) :
  Calls Tryz.prog 28 #[.string a,.string b] w fun e w'=>e = .returned (.bool (di a.data.toList b.data.toList))/\w'=w:=by
 by_cases h:a.size<b.size
 ·
  have hI:(a.size:Int)<(b.size:Int):=by omega
  by_cases k:(b.data.toList.take a.size)=a.data.toList
  ·
   have HU:=af (I4 h k);have hx:(b.extract 0 a.size).toList=a.toList:=by rw[AU,k,a06]
   go_enter Tryz.func28,Tryz.ntmps28;go_wp2;go_ret;exact⟨ak ((Fw _).trans (ae HU).symm),rfl⟩
  · have HU:=af (EA k);have hx:¬ (b.extract 0 a.size).toList=a.toList:=fun e=>k (by rw[←AU,e,a06]);go_enter Tryz.func28,Tryz.ntmps28;go_wp2;go_ret;exact⟨ak (ae HU).symm,rfl⟩
 ·
  have HU:=af (ED (a:=a) (b:=b) (by omega));have hI:¬ (a.size:Int)<(b.size:Int):=by omega
  go_enter Tryz.func28,Tryz.ntmps28;go_wp2;go_ret;exact⟨ak (ae HU).symm,rfl⟩
def iw(w:World)(b:Nat)(es:List (Int×Value)):Prop:=
 w.heap[b]?=some (.map ((es.zipIdx.map fun(x,i)=>({ key:=.int .i64 x.1,val:=x.2,born:=i } : MapEntry)).toArray) es.length)
theorem Br(w:World):iw (w.alloc (.map #[] 0)) w.heap.size []:=World.alloc_heap_new w _
theorem qn(k:Int)(d:IntKind)(es:List MapEntry)(i:Nat)(h:∀e∈es,∃x,e.key = .int .i64 x/\x≠k):Instr.findNow (.int d) (.int .i64 k) es i=some none:=by
 induction es generalizing i with
 | nil=>rfl
 | cons e es ih=>
  obtain⟨x,e1,hx⟩:=h e (by simp);have:(k == x)=false:=by simpa using fun e=>hx e.symm
  simp only[Instr.findNow,e1,Instr.sameNow,a0Z,this];exact ih _ (fun e he=>h e (by simp[he]))
theorem Lu{kt:TypeId}{d:IntKind}(hk:Tryz.prog.underlying kt=some (.int d))(em:Bool)(k:Int)(w:World)(n:Nat):(Instr.checkKey em (n+1) kt (.int .i64 k)).run Tryz.prog w = .ok () w:=by
 simp[Instr.checkKey,a1d hk,Result.andThen]
theorem yX{kt:TypeId}{d:IntKind}(hk:Tryz.prog.underlying kt=some (.int d))(em:Bool)(k:Int)(w:World):(Instr.checkKey em 10000 kt (.int .i64 k)).run Tryz.prog w = .ok () w:=Lu hk em k w 9999
theorem ln{t kt et:TypeId}{d:IntKind}(hu:Tryz.prog.underlying t=some (.map kt et))(hk:Tryz.prog.underlying kt=some (.int d))(w:World)(b:Nat)(es:List (Int×Value))(k:Int)(v:Value)(h:iw w b es)(hn:∀x∈es,x.1≠k) :
  ∃w',(Instr.mapUpdate t (.map (some b)) (.int .i64 k) v).run Tryz.prog w = .ok () w'/\iw w' b (es++[(k,v)])/\w'=w.putObj b (.map (((es++[(k,v)]).zipIdx.map fun(x,i)=>({ key:=.int .i64 x.1,val:=x.2,born:=i } : MapEntry)).toArray) (es++[(k,v)]).length):=by
 have hb:b<w.heap.size:=(Array.getElem?_eq_some_iff.1 h).1;have hf:Instr.findNow (.int d) (.int .i64 k) (es.zipIdx.map fun(x,i)=>({ key:=.int .i64 x.1,val:=x.2,born:=i } : MapEntry)) 0=some none:=by
  refine qn k d _ 0 (fun e he=>?_);obtain⟨⟨x,i⟩,hx,rfl⟩:=a2I.1 he;refine⟨x.1,rfl,hn x ?_⟩;have:=List.mem_zipIdx hx;rw[this.2.2];exact a1P _
 refine⟨_,?_,?_,rfl⟩
 · unfold iw at h;simp[Instr.mapUpdate,a1d hu,a1d hk,a2y h,yX hk,Instr.findKey,hf,MapKept.run_setObj_map _ h,Result.andThen,World.putObj,List.zipIdx_append]
 · unfold iw;exact World.putObj_heap_same hb
theorem vV(k:Int)(d:IntKind)(v:Value)(A:List (Int×Value)):∀(i:Nat),(k,v)∈A->(A.map Prod.fst).Nodup->∃j,Instr.findNow (.int d) (.int .i64 k) ((A.zipIdx i).map fun(x,i)=>({ key:=.int .i64 x.1,val:=x.2,born:=i } : MapEntry)) i=some (some (j,v)):=by
 induction A with
 | nil=>intro i h;cases h
 | cons a A ih=>
  intro i h hd;simp only[a0o,List.nodup_cons]at hd;rcases a1j.1 h with rfl|h
  · exact⟨i,by simp[Instr.findNow,Instr.sameNow]⟩
  ·
   obtain⟨j,hj⟩:=ih (i+1) h hd.2;have hne:¬ k=a.1:=fun e=>hd.1 (by rw[←e];exact a28 (f:=Prod.fst) h);have hb:(k == a.1)=false:=by simpa using hne
   refine⟨j,?_⟩;simp only[List.zipIdx_cons,a0o,Instr.findNow,Instr.sameNow,a0Z,hb];exact hj
theorem Bq{t kt et:TypeId}{d:IntKind}(hu:Tryz.prog.underlying t=some (.map kt et))(hk:Tryz.prog.underlying kt=some (.int d))(w:World)(b:Nat)(es:List (Int×Value))(k:Int)(v:Value)(co:Bool)(h:iw w b es)(hm:(k,v)∈es)(hd:(es.map Prod.fst).Nodup) :
  (Instr.lookup t (.map (some b)) (.int .i64 k) co).run Tryz.prog w = .ok (if co then .tuple #[v,.bool true]else v) w:=by
 obtain⟨j,hj⟩:=vV k d v es 0 hm hd;unfold iw at h;simp[Instr.lookup,a1d hu,a1d hk,a2y h,yX hk,Instr.findKey,hj,Result.andThen]
theorem map_none{t kt et:TypeId}{d:IntKind}(hu:Tryz.prog.underlying t=some (.map kt et))(hk:Tryz.prog.underlying kt=some (.int d))(w:World)(b:Nat)(es:List (Int×Value))(k:Int)(z:Value)(h:iw w b es)(hn:∀x∈es,x.1≠k)(hz:(zeroValue et).run Tryz.prog w = .ok z w) :
  (Instr.lookup t (.map (some b)) (.int .i64 k) true).run Tryz.prog w = .ok (.tuple #[z,.bool false]) w:=by
 have hf:Instr.findNow (.int d) (.int .i64 k) (es.zipIdx.map fun(x,i)=>({ key:=.int .i64 x.1,val:=x.2,born:=i } : MapEntry)) 0=some none:=by
  refine qn k d _ 0 (fun e he=>?_);obtain⟨⟨x,i⟩,hx,rfl⟩:=a2I.1 he;refine⟨x.1,rfl,hn x ?_⟩;have:=List.mem_zipIdx hx;rw[this.2.2];exact a1P _
 unfold iw at h;simp[Instr.lookup,a1d hu,a1d hk,a2y h,yX hk,Instr.findKey,hf,hz,Result.andThen]
theorem iw.later{w w':World}{b:Nat}{es:List (Int×Value)}(h:iw w b es)(hb:Below w.heap.size w w'):iw w' b es:=(hb.block b (Array.getElem?_eq_some_iff.1 h).1).trans h
abbrev KVs:=List ((ByteArray×Value)×Nat)
def lW(x:(ByteArray×Value)×Nat):MapEntry:={ key:=.string x.1.1,val:=x.1.2,born:=x.2 }
def ce:KVs->ByteArray->Option (Nat×Value)
 | [],_=>none
 | x :: l,k=>if k=x.1.1 then some (0,x.1.2)else(ce l k).map fun q=>(q.1+1,q.2)
def xO:KVs->ByteArray->Value->KVs
 | [],_,_=>[]
 | x :: l,k,v=>if k=x.1.1 then((k,v),x.2) :: l else x :: xO l k v
def nF(w:World)(b:Nat)(m:ByteArray->Option Value):Prop:=∃(kv:KVs) (c:Nat),w.heap[b]?=some (.map (kv.map lW).toArray c)/\∀p,(ce kv p).map (·.2)=m p
def D9(m:ByteArray->Option Value)(k:ByteArray)(v:Value):ByteArray->Option Value:=fun q=>if q=k then some v else m q
theorem GI(w:World):nF (w.alloc (.map #[] 0)) w.heap.size (fun _=>none):=⟨[],0,World.alloc_heap_new w _,fun _=>rfl⟩
theorem nF.lt{w:World}{b:Nat}{m:ByteArray->Option Value}(h:nF w b m):b<w.heap.size:=by
 obtain⟨kv,c,e,_⟩:=h;exact(Array.getElem?_eq_some_iff.1 e).1
theorem nF.later{w w':World}{b B:Nat}{m:ByteArray->Option Value}(h:nF w b m)(hb:Below B w w')(hB:b<B):nF w' b m:=by
 obtain⟨kv,c,e,k⟩:=h;exact⟨kv,c,(hb.block b hB).trans e,k⟩
theorem AF(k:ByteArray):(k == k)=true:=by
 rw[show(k == k)=(k.data == k.data)from rfl];simp
theorem Mm{k x:ByteArray}(h:¬ k=x):(k == x)=false:=by
 rw[show(k == x)=(k.data == x.data)from rfl];rw[a1b];exact fun e=>h (a2x e)
theorem AV(k:ByteArray)(kv:KVs)(i:Nat):Instr.findNow .string (.string k) (kv.map lW) i=some ((ce kv k).map fun q=>(i+q.1,q.2)):=by
 induction kv generalizing i with
 | nil=>rfl
 | cons x kv ih=>
  unfold ce;simp only[a0o,Instr.findNow,lW,Instr.sameNow];by_cases h:k=x.1.1
  ·
   have e:(k == x.1.1)=true:=by rw[h];exact AF _
   rw[e,a0d h];rfl
  · have e:(k == x.1.1)=false:=Mm h;rw[e,a0e h];show Instr.findNow .string (.string k) (kv.map lW) (i+1)=_;rw[ih];cases ce kv k<;>simp;omega
theorem yY{kt:TypeId}(hk:Tryz.prog.underlying kt=some .string)(em:Bool)(k:ByteArray)(w:World)(n:Nat):(Instr.checkKey em (n+1) kt (.string k)).run Tryz.prog w = .ok () w:=by
 simp[Instr.checkKey,a1d hk,Result.andThen]
theorem FN{kv:KVs}{k:ByteArray}{i:Nat}{v:Value}(h:ce kv k=some (i,v)):∃n,kv[i]?=some ((k,v),n):=by
 induction kv generalizing i with
 | nil=>cases h
 | cons x kv ih=>
  unfold ce at h
  split at h
  · rename_i e;simp only[a0j,a0O]at h;obtain⟨rfl,rfl⟩:=h;exact⟨x.2,by simp[e]⟩
  · obtain⟨q,hq,e⟩:=Option.map_eq_some_iff.1 h;simp only[a0O]at e;obtain⟨rfl,rfl⟩:=e;simpa using ih hq
theorem LW{kv:KVs}{k:ByteArray}{i:Nat}{v0 v:Value}(h:ce kv k=some (i,v0)):(kv.map lW).modify i (fun e=>{ e with key:=.string k,val:=v })=(xO kv k v).map lW:=by
 induction kv generalizing i with
 | nil=>cases h
 | cons x kv ih=>
  unfold ce at h;unfold xO
  split at h
  · rename_i e;simp only[a0j,a0O]at h;obtain⟨rfl,rfl⟩:=h;rw[a0d e];simp[lW]
  · rename_i e;obtain⟨q,hq,e2⟩:=Option.map_eq_some_iff.1 h;simp only[a0O]at e2;obtain⟨rfl,rfl⟩:=e2;rw[a0e e];simp[ih hq]
theorem CK{kv:KVs}{k:ByteArray}{r:Nat×Value}{v:Value}(h:ce kv k=some r)(q:ByteArray):(ce (xO kv k v) q).map (·.2)=if q=k then some v else(ce kv q).map (·.2):=by
 induction kv generalizing r with
 | nil=>cases h
 | cons x kv ih=>
  unfold ce at h;unfold xO
  split at h
  ·
   rename_i e;rw[a0d e];unfold ce;by_cases hq:q=k
   · simp[hq]
   · have:¬ q=x.1.1:=fun e2=>hq (e2.trans e.symm);simp[hq,this]
  ·
   rename_i e;obtain⟨r,hr,_⟩:=Option.map_eq_some_iff.1 h;rw[a0e e];unfold ce;by_cases hq:q=x.1.1
   · have:¬ q=k:=fun e2=>e (e2.symm.trans hq);rw[a0d hq,a0e this,a0d hq]
   · rw[a0e hq,a0e hq];have:=ih hr;simp only[Option.map_map]at this ⊢;exact this
theorem zf{kv:KVs}{k:ByteArray}{v:Value}{c:Nat}(h:ce kv k=none)(q:ByteArray):(ce (kv++[((k,v),c)]) q).map (·.2)=if q=k then some v else(ce kv q).map (·.2):=by
 induction kv with
 | nil=>simp only[a04,ce];split<;>simp
 | cons x kv ih=>
  unfold ce at h
  split at h
  · cases h
  ·
   rename_i e;have h':ce kv k=none:=by simpa using h
   simp only[a1h];unfold ce;by_cases hq:q=x.1.1
   · have:¬ q=k:=fun e2=>e (e2.symm.trans hq);rw[a0d hq,a0e this,a0d hq]
   · rw[a0e hq,a0e hq];have:=ih h';simp only[Option.map_map]at this ⊢;exact this
theorem GJ{t kt et:TypeId}(hu:Tryz.prog.underlying t=some (.map kt et))(hk:Tryz.prog.underlying kt=some .string)(w:World)(b:Nat)(m:ByteArray->Option Value)(k:ByteArray)(v:Value)(h:nF w b m) :
  ∃w',(Instr.mapUpdate t (.map (some b)) (.string k) v).run Tryz.prog w = .ok () w'/\nF w' b (D9 m k v)/\∃es c,w'=w.putObj b (.map es c):=by
 have hb:=h.lt;obtain⟨kv,c,e,hm⟩:=h;have hf:=AV k kv 0;cases hx:ce kv k with
 | none=>
  rw[hx]at hf;refine⟨w.putObj b (.map ((kv++[((k,v),c)]).map lW).toArray (c+1)),?_,⟨kv++[((k,v),c)],c+1,World.putObj_heap_same hb,fun p=>?_⟩,_,_,rfl⟩
  · simp[Instr.mapUpdate,a1d hu,a1d hk,a2y e,yY hk,Instr.findKey,hf,MapKept.run_setObj_map _ e,Result.andThen,World.putObj,lW]
  · rw[zf hx,hm];rfl
 | some q=>
  obtain⟨i,v0⟩:=q;rw[hx]at hf;obtain⟨n0,hn0⟩:=FN hx;have hkey:((((kv.map lW).toArray)[i]?).map (·.key)).getD (.string k) = .string k:=by simp[hn0,lW]
  have hmod:((kv.map lW).toArray.modify i fun e=>{ e with key:=.string k,val:=v })=((xO kv k v).map lW).toArray:=by
   rw[←LW hx];simp
  refine⟨w.putObj b (.map ((xO kv k v).map lW).toArray c),?_,⟨xO kv k v,c,World.putObj_heap_same hb,fun p=>?_⟩,_,_,rfl⟩
  ·
   have hs:Instr.sameBits 10000 (.string k) (.string k)=true:=by simp[Instr.sameBits,AF]
   have hf2:Instr.findNow .string (.string k) (kv.map lW) 0=some (some (i,v0)):=by rw[hf];simp
   unfold Instr.mapUpdate;simp only[a1d hu,a1d hk,a2y e,yY hk,Instr.findKey,hf2,Result.andThen,a2f,a29,hkey,Instr.keyThatStays,hs,a0Z,hmod,MapKept.run_setObj_map _ e];rfl
  · rw[CK hx,hm];rfl
theorem GH{t kt et:TypeId}(hu:Tryz.prog.underlying t=some (.map kt et))(hk:Tryz.prog.underlying kt=some .string)(w:World)(b:Nat)(m:ByteArray->Option Value)(k:ByteArray)(v:Value)(h:nF w b m)(hv:m k=some v) :
  (Instr.lookup t (.map (some b)) (.string k) false).run Tryz.prog w = .ok v w:=by
 obtain⟨kv,c,e,hm⟩:=h;have hf:=AV k kv 0;have hp:=hm k;rw[hv]at hp;obtain⟨q,hq,hq2⟩:=Option.map_eq_some_iff.1 hp;obtain⟨i,v0⟩:=q;obtain rfl:v0=v:=hq2;rw[hq]at hf;simp[Instr.lookup,a1d hu,a1d hk,a2y e,yY hk,Instr.findKey,hf,Result.andThen]
end Go.Proofs.YtkdlcomfpffhhaaGreatDoor
