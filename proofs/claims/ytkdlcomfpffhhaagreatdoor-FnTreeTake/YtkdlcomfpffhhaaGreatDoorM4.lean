/- Of what the proof is made: 5 texts, one behind the other. -/
import Derived.Test.YtkdlcomfpffhhaaGreatDoorRows
import Derived.ChangeSame
import Derived.ChangeOld
import Derived.ProofKit
import Derived.OpenShut
import Derived.Test.YtkdlcomfpffhhaaGreatDoorM3
import Derived.Lib.Strings
import Derived.Deep.RegionHeld3
import Derived.Carry
import Derived.MapKept
import Derived.ChangeMaps4
import Derived.RangeFuncRecord
set_option linter.unusedSimpArgs false
set_option linter.unusedVariables false
set_option maxHeartbeats 800000
namespace Go.Proofs.YtkdlcomfpffhhaaGreatDoor
open Go.Proofs.Tryz
open Go.ChangeShapes Go.WideShapes Go.ChangeAt Go.RowKit
section
variable {H : Type} {enc : TypeId × Value → H} {P : Program} {w : World} {base : Nat} {spare : Nat → Bool} {held : Bool}
end
end Go.Proofs.YtkdlcomfpffhhaaGreatDoor
namespace Go.Proofs.YtkdlcomfpffhhaaGreatDoor
open Go.Proofs.Tryz
open Go.RowKit
variable {a b k:ByteArray}{et kt t:TypeId}{v:Value}{w:World}
def ce(a b:List UInt8):Bool:=(a++[47]).isPrefixOf b
theorem Gd(h:b.size<=a.size):ce a.data.toList b.data.toList=false:=by
 cases e:ce a.data.toList b.data.toList
 . rfl
 .
  have:=(List.isPrefixOf_iff_prefix.1 e).length_le;have e1:a.data.toList.length=a.size:=by simp
  have e2:b.data.toList.length=b.size:=by simp
  rw[a0o]at this;simp only[a0J,a04]at this;omega
theorem Gb(k:¬ (b.data.toList.take a.size)=a.data.toList):ce a.data.toList b.data.toList=false:=by
 cases e:ce a.data.toList b.data.toList
 . rfl
 .
  exfalso;apply k;obtain⟨t,c⟩:=List.isPrefixOf_iff_prefix.1 e;rw[←c];have e1:a.data.toList.length=a.size:=by simp
  rw[a0U,←e1,a2K];rfl
theorem J9(h:a.size<b.size)(k:(b.data.toList.take a.size)=a.data.toList):ce a.data.toList b.data.toList=(b[a.size] == 47):=by
 have e2:b.data.toList.length=b.size:=by simp
 have d:a.size<b.data.toList.length:=by omega
 have e3:b.data.toList=a.data.toList++(b[a.size] :: b.data.toList.drop (a.size+1)):=by
  have:=a13 a.size b.data.toList;rw[k,a3q d]at this;exact this.symm
 unfold ce;rw[e3];cases hb:(b[a.size] == 47)
 .
  cases e:(a.data.toList++[47]).isPrefixOf (a.data.toList++(b[a.size] :: b.data.toList.drop (a.size+1)))
  . rfl
  . have:=List.isPrefixOf_iff_prefix.1 e;rw[List.prefix_append_right_inj]at this;obtain⟨t,c⟩:=this;simp only[a2i,a1v,List.cons.injEq]at c;rw[←c.1]at hb;simp at hb
 . rw[List.isPrefixOf_iff_prefix,List.prefix_append_right_inj];rw[a2U.1 hb];exact⟨_,rfl⟩
theorem Cy(b:ByteArray)(k:Nat):(b.extract 0 k).toList=b.data.toList.take k:=by
 rw[a08,Lib.extract_data];simp
theorem GW(x:UInt8):((x.toNat:Int) == 47)=(x == 47):=by
 cases e:(x == 47)
 .
  have:¬ x.toNat=47:=fun h=>by rw[UInt8.toNat_inj.1 (show x.toNat=(47:UInt8).toNat from h)]at e;cases e
  simp;omega
 . rw[a2U.1 e];rfl
theorem iP(a b:ByteArray)(w:World)(g:(a.size:Int)<=1048576)(_:(b.size:Int)<=1048576) :
  Calls prog 28 #[.string a,.string b] w fun e w'=>e = .returned (.bool (ce a.data.toList b.data.toList))/\w'=w:=by
 by_cases h:a.size<b.size
 .
  have d:(a.size:Int)<(b.size:Int):=by omega
  by_cases k:(b.data.toList.take a.size)=a.data.toList
  .
   have c:=af (J9 h k);have f:(b.extract 0 a.size).toList=a.toList:=by rw[Cy,k,a08]
   go_enter func28,ntmps28;go_wp2;go_ret;exact⟨aj ((GW _).trans (ae c).symm),rfl⟩
  . have c:=af (Gb k);have f:¬ (b.extract 0 a.size).toList=a.toList:=fun e=>k (by rw[←Cy,e,a08]);go_enter func28,ntmps28;go_wp2;go_ret;exact⟨aj (ae c).symm,rfl⟩
 .
  have c:=af (Gd (a:=a) (b:=b) (by omega));have d:¬ (a.size:Int)<(b.size:Int):=by omega
  go_enter func28,ntmps28;go_wp2;go_ret;exact⟨aj (ae c).symm,rfl⟩
theorem dL{P:Program}{md:Region.Mode}{ops:Array Oper}{Q:Exit->Act->World->Prop}{S S':World->Prop}(c:∀w,S' w->S w):∀(fuel:Nat) (listed:Array Bool) (a:Act) (w:World),wpAnyH P md ops Q S' fuel listed a w->wpAnyH P md ops Q S fuel listed a w
 | 0,_,_,_,h=>h
 | fuel+1,_,_,_,h=>⟨h.1,fun i d=>wpOp_mono (fun a' w' b=>⟨c _ b.1,dL c fuel _ a' w' b.2⟩) (h.2 i d)⟩
def jB(w:World)(b:Nat)(es:List (Int×Value)):Prop:=
 w.heap[b]?=some (.map ((es.zipIdx.map fun(x,i)=>({ key:=.int .i64 x.1,val:=x.2,born:=i } : MapEntry)).toArray) es.length)
theorem Lu(w:World):jB (w.alloc (.map #[] 0)) w.heap.size []:=World.alloc_heap_new w _
theorem rq(k:Int)(d:IntKind)(es:List MapEntry)(i:Nat)(h:∀e∈es,∃x,e.key = .int .i64 x/\x≠k):Instr.findNow (.int d) (.int .i64 k) es i=some none:=by
 induction es generalizing i with
 | nil=>rfl
 | cons e es ih=>
  obtain⟨x,e1,b⟩:=h e (by simp);have:(k == x)=false:=by simpa using fun e=>b e.symm
  simp only[Instr.findNow,e1,Instr.sameNow,a09,this];exact ih _ (fun e a=>h e (by simp[a]))
theorem MX{d:IntKind}(a:prog.underlying kt=some (.int d))(em:Bool)(k:Int)(w:World)(n:Nat):(Instr.checkKey em (n+1) kt (.int .i64 k)).run prog w = .ok () w:=by
 simp[Instr.checkKey,a1m a,Result.andThen]
theorem Av{d:IntKind}(a:prog.underlying kt=some (.int d))(em:Bool)(k:Int)(w:World):(Instr.checkKey em 10000 kt (.int .i64 k)).run prog w = .ok () w:=MX a em k w 9999
theorem wi{d:IntKind}(j:prog.underlying t=some (.map kt et))(a:prog.underlying kt=some (.int d))(w:World)(b:Nat)(es:List (Int×Value))(k:Int)(v:Value)(h:jB w b es)(g:∀x∈es,x.1≠k) :
  ∃w',(Instr.mapUpdate t (.map (some b)) (.int .i64 k) v).run prog w = .ok () w'/\jB w' b (es++[(k,v)])/\w'=w.putObj b (.map (((es++[(k,v)]).zipIdx.map fun(x,i)=>({ key:=.int .i64 x.1,val:=x.2,born:=i } : MapEntry)).toArray) (es++[(k,v)]).length):=by
 have hb:b<w.heap.size:=(Array.getElem?_eq_some_iff.1 h).1;have f:Instr.findNow (.int d) (.int .i64 k) (es.zipIdx.map fun(x,i)=>({ key:=.int .i64 x.1,val:=x.2,born:=i } : MapEntry)) 0=some none:=by
  refine rq k d _ 0 (fun e c=>?_);obtain⟨⟨x,i⟩,l,rfl⟩:=a2S.1 c;refine⟨x.1,rfl,g x ?_⟩;have:=List.mem_zipIdx l;rw[this.2.2];exact a1A _
 refine⟨_,?_,?_,rfl⟩
 . unfold jB at h;simp[Instr.mapUpdate,a1m j,a1m a,a2L h,Av a,Instr.findKey,f,MapKept.run_setObj_map _ h,Result.andThen,World.putObj,List.zipIdx_append]
 . unfold jB;exact World.putObj_heap_same hb
theorem xv(k:Int)(d:IntKind)(v:Value)(A:List (Int×Value)):∀(i:Nat),(k,v)∈A->(A.map Prod.fst).Nodup->∃j,Instr.findNow (.int d) (.int .i64 k) ((A.zipIdx i).map fun(x,i)=>({ key:=.int .i64 x.1,val:=x.2,born:=i } : MapEntry)) i=some (some (j,v)):=by
 induction A with
 | nil=>intro i h;cases h
 | cons a A ih=>
  intro i h hd;simp only[a0K,List.nodup_cons]at hd;rcases a1h.1 h with rfl|h
  . exact⟨i,by simp[Instr.findNow,Instr.sameNow]⟩
  .
   obtain⟨j,c⟩:=ih (i+1) h hd.2;have b:¬ k=a.1:=fun e=>hd.1 (by rw[←e];exact a3r (f:=Prod.fst) h);have hb:(k == a.1)=false:=by simpa using b
   refine⟨j,?_⟩;simp only[List.zipIdx_cons,a0K,Instr.findNow,Instr.sameNow,a09,hb];exact c
theorem Lt{d:IntKind}(g:prog.underlying t=some (.map kt et))(c:prog.underlying kt=some (.int d))(w:World)(b:Nat)(es:List (Int×Value))(k:Int)(v:Value)(a:Bool)(h:jB w b es)(f:(k,v)∈es)(hd:(es.map Prod.fst).Nodup) :
  (Instr.lookup t (.map (some b)) (.int .i64 k) a).run prog w = .ok (if a then .tuple #[v,.bool true]else v) w:=by
 obtain⟨j,e⟩:=xv k d v es 0 f hd;unfold jB at h;simp[Instr.lookup,a1m g,a1m c,a2L h,Av c,Instr.findKey,e,Result.andThen]
theorem map_none{d:IntKind}(j:prog.underlying t=some (.map kt et))(a:prog.underlying kt=some (.int d))(w:World)(b:Nat)(es:List (Int×Value))(k:Int)(z:Value)(h:jB w b es)(g:∀x∈es,x.1≠k)(m:(zeroValue et).run prog w = .ok z w) :
  (Instr.lookup t (.map (some b)) (.int .i64 k) true).run prog w = .ok (.tuple #[z,.bool false]) w:=by
 have f:Instr.findNow (.int d) (.int .i64 k) (es.zipIdx.map fun(x,i)=>({ key:=.int .i64 x.1,val:=x.2,born:=i } : MapEntry)) 0=some none:=by
  refine rq k d _ 0 (fun e c=>?_);obtain⟨⟨x,i⟩,l,rfl⟩:=a2S.1 c;refine⟨x.1,rfl,g x ?_⟩;have:=List.mem_zipIdx l;rw[this.2.2];exact a1A _
 unfold jB at h;simp[Instr.lookup,a1m j,a1m a,a2L h,Av a,Instr.findKey,f,m,Result.andThen]
theorem jB.later{w':World}{b:Nat}{es:List (Int×Value)}(h:jB w b es)(hb:Below w.heap.size w w'):jB w' b es:=(hb.block b (Array.getElem?_eq_some_iff.1 h).1).trans h
abbrev KVs:=List ((ByteArray×Value)×Nat)
def mz(x:(ByteArray×Value)×Nat):MapEntry:={ key:=.string x.1.1,val:=x.1.2,born:=x.2 }
def cz:KVs->ByteArray->Option (Nat×Value)
 | [],_=>none
 | x :: l,k=>if k=x.1.1 then some (0,x.1.2)else(cz l k).map fun q=>(q.1+1,q.2)
def zg:KVs->ByteArray->Value->KVs
 | [],_,_=>[]
 | x :: l,k,v=>if k=x.1.1 then((k,v),x.2) :: l else x :: zg l k v
def ow(w:World)(b:Nat)(m:ByteArray->Option Value):Prop:=∃(kv:KVs) (c:Nat),w.heap[b]?=some (.map (kv.map mz).toArray c)/\∀p,(cz kv p).map (·.2)=m p
def FI(m:ByteArray->Option Value)(k:ByteArray)(v:Value):ByteArray->Option Value:=fun q=>if q=k then some v else m q
theorem IX(w:World):ow (w.alloc (.map #[] 0)) w.heap.size (fun _=>none):=⟨[],0,World.alloc_heap_new w _,fun _=>rfl⟩
theorem ow.lt{b:Nat}{m:ByteArray->Option Value}(h:ow w b m):b<w.heap.size:=by
 obtain⟨a,c,e,_⟩:=h;exact(Array.getElem?_eq_some_iff.1 e).1
theorem ow.later{w':World}{b B:Nat}{m:ByteArray->Option Value}(h:ow w b m)(hb:Below B w w')(a:b<B):ow w' b m:=by
 obtain⟨d,c,e,k⟩:=h;exact⟨d,c,(hb.block b a).trans e,k⟩
theorem Cp(k:ByteArray):(k == k)=true:=by
 rw[show(k == k)=(k.data == k.data)from rfl];simp
theorem NJ{x:ByteArray}(h:¬ k=x):(k == x)=false:=by
 rw[show(k == x)=(k.data == x.data)from rfl];rw[a03];exact fun e=>h (a2y e)
theorem Cz(k:ByteArray)(a:KVs)(i:Nat):Instr.findNow .string (.string k) (a.map mz) i=some ((cz a k).map fun q=>(i+q.1,q.2)):=by
 induction a generalizing i with
 | nil=>rfl
 | cons x a ih=>
  unfold cz;simp only[a0K,Instr.findNow,mz,Instr.sameNow];by_cases h:k=x.1.1
  .
   have e:(k == x.1.1)=true:=by rw[h];exact Cp _
   rw[e,a0e h];rfl
  . have e:(k == x.1.1)=false:=NJ h;rw[e,a0d h];show Instr.findNow .string (.string k) (a.map mz) (i+1)=_;rw[ih];cases cz a k<;>simp;omega
theorem Aw(a:prog.underlying kt=some .string)(em:Bool)(k:ByteArray)(w:World)(n:Nat):(Instr.checkKey em (n+1) kt (.string k)).run prog w = .ok () w:=by
 simp[Instr.checkKey,a1m a,Result.andThen]
theorem H9{a:KVs}{i:Nat}(h:cz a k=some (i,v)):∃n,a[i]?=some ((k,v),n):=by
 induction a generalizing i with
 | nil=>cases h
 | cons x a ih=>
  unfold cz at h
  split at h
  . rename_i e;simp only[a0m,a0X]at h;obtain⟨rfl,rfl⟩:=h;exact⟨x.2,by simp[e]⟩
  . obtain⟨q,hq,e⟩:=Option.map_eq_some_iff.1 h;simp only[a0X]at e;obtain⟨rfl,rfl⟩:=e;simpa using ih hq
theorem Nm{a:KVs}{i:Nat}{v0:Value}(h:cz a k=some (i,v0)):(a.map mz).modify i (fun e=>{ e with key:=.string k,val:=v })=(zg a k v).map mz:=by
 induction a generalizing i with
 | nil=>cases h
 | cons x a ih=>
  unfold cz at h;unfold zg
  split at h
  . rename_i e;simp only[a0m,a0X]at h;obtain⟨rfl,rfl⟩:=h;rw[a0e e];simp[mz]
  . rename_i e;obtain⟨q,hq,e2⟩:=Option.map_eq_some_iff.1 h;simp only[a0X]at e2;obtain⟨rfl,rfl⟩:=e2;rw[a0d e];simp[ih hq]
theorem Ei{a:KVs}{r:Nat×Value}(h:cz a k=some r)(q:ByteArray):(cz (zg a k v) q).map (·.2)=if q=k then some v else(cz a q).map (·.2):=by
 induction a generalizing r with
 | nil=>cases h
 | cons x a ih=>
  unfold cz at h;unfold zg
  split at h
  .
   rename_i e;rw[a0e e];unfold cz;by_cases hq:q=k
   . simp[hq]
   . have:¬ q=x.1.1:=fun e2=>hq (e2.trans e.symm);simp[hq,this]
  .
   rename_i e;obtain⟨r,b,_⟩:=Option.map_eq_some_iff.1 h;rw[a0d e];unfold cz;by_cases hq:q=x.1.1
   . have:¬ q=k:=fun e2=>e (e2.symm.trans hq);rw[a0e hq,a0d this,a0e hq]
   . rw[a0d hq,a0d hq];have:=ih b;simp only[Option.map_map]at this ⊢;exact this
theorem AF{a:KVs}{c:Nat}(h:cz a k=none)(q:ByteArray):(cz (a++[((k,v),c)]) q).map (·.2)=if q=k then some v else(cz a q).map (·.2):=by
 induction a with
 | nil=>simp only[a1v,cz];split<;>simp
 | cons x a ih=>
  unfold cz at h
  split at h
  . cases h
  .
   rename_i e;have b:cz a k=none:=by simpa using h
   simp only[a2i];unfold cz;by_cases hq:q=x.1.1
   . have:¬ q=k:=fun e2=>e (e2.symm.trans hq);rw[a0e hq,a0d this,a0e hq]
   . rw[a0d hq,a0d hq];have:=ih b;simp only[Option.map_map]at this ⊢;exact this
theorem IY(s:prog.underlying t=some (.map kt et))(l:prog.underlying kt=some .string)(w:World)(b:Nat)(m:ByteArray->Option Value)(k:ByteArray)(v:Value)(h:ow w b m) :
  ∃w',(Instr.mapUpdate t (.map (some b)) (.string k) v).run prog w = .ok () w'/\ow w' b (FI m k v)/\∃es c,w'=w.putObj b (.map es c):=by
 have hb:=h.lt;obtain⟨a,c,e,r⟩:=h;have j:=Cz k a 0;cases d:cz a k with
 | none=>
  rw[d]at j;refine⟨w.putObj b (.map ((a++[((k,v),c)]).map mz).toArray (c+1)),?_,⟨a++[((k,v),c)],c+1,World.putObj_heap_same hb,fun p=>?_⟩,_,_,rfl⟩
  . simp[Instr.mapUpdate,a1m s,a1m l,a2L e,Aw l,Instr.findKey,j,MapKept.run_setObj_map _ e,Result.andThen,World.putObj,mz]
  . rw[AF d,r];rfl
 | some q=>
  obtain⟨i,v0⟩:=q;rw[d]at j;obtain⟨n0,o⟩:=H9 d;have f:((((a.map mz).toArray)[i]?).map (·.key)).getD (.string k) = .string k:=by simp[o,mz]
  have g:((a.map mz).toArray.modify i fun e=>{ e with key:=.string k,val:=v })=((zg a k v).map mz).toArray:=by
   rw[←Nm d];simp
  refine⟨w.putObj b (.map ((zg a k v).map mz).toArray c),?_,⟨zg a k v,c,World.putObj_heap_same hb,fun p=>?_⟩,_,_,rfl⟩
  .
   have u:Instr.sameBits 10000 (.string k) (.string k)=true:=by simp[Instr.sameBits,Cp]
   have n:Instr.findNow .string (.string k) (a.map mz) 0=some (some (i,v0)):=by rw[j];simp
   unfold Instr.mapUpdate;simp only[a1m s,a1m l,a2L e,Aw l,Instr.findKey,n,Result.andThen,a2M,Sem.run_pure,f,Instr.keyThatStays,u,a09,g,MapKept.run_setObj_map _ e];rfl
  . rw[Ei d,r];rfl
theorem IW(l:prog.underlying t=some (.map kt et))(f:prog.underlying kt=some .string)(w:World)(b:Nat)(m:ByteArray->Option Value)(k:ByteArray)(v:Value)(h:ow w b m)(n:m k=some v) :
  (Instr.lookup t (.map (some b)) (.string k) false).run prog w = .ok v w:=by
 obtain⟨o,c,e,j⟩:=h;have d:=Cz k o 0;have g:=j k;rw[n]at g;obtain⟨q,hq,a⟩:=Option.map_eq_some_iff.1 g;obtain⟨i,v0⟩:=q;obtain rfl:v0=v:=a;rw[hq]at d;simp[Instr.lookup,a1m l,a1m f,a2L e,Aw f,Instr.findKey,d,Result.andThen]
end Go.Proofs.YtkdlcomfpffhhaaGreatDoor
