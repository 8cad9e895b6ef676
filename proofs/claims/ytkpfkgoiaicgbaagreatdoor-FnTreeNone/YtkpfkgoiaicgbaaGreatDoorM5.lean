/- Of what the proof is made. -/
import Derived.Test.YtkpfkgoiaicgbaaGreatDoorRows
import Derived.WalkKit
import Derived.WalkSpells
import Derived.Below
import Derived.Laws.BitsAllLaws
import Derived.Test.YtkpfkgoiaicgbaaGreatDoorM2
import Derived.Test.YtkpfkgoiaicgbaaGreatDoorM1
import Derived.ChangeSame
import Derived.ChangeOld
import Derived.ProofKit
import Derived.OpenShut
import Derived.Lib.Strings
import Derived.Carry
import Derived.MapKept
import Derived.ChangeMaps4
import Derived.RangeFuncRecord
set_option linter.unusedSimpArgs false
set_option linter.unusedVariables false
set_option maxHeartbeats 400000
namespace Go.Proofs.YtkpfkgoiaicgbaaGreatDoor
open Go.RowKit
theorem af{p:Prop}(h:p):Hid p:=h
theorem ae{p:Prop}(h:Hid p):p:=h
theorem aR{k:IntKind}{a b:Int}(h:a=b):Ending.returned (.int k a) = .returned (.int k b):=by rw[h]
theorem ak{a b:Bool}(h:a=b):Ending.returned (.bool a) = .returned (.bool b):=by rw[h]
def inB(n lo hi:Int):Bool:=decide (lo<=n)&&decide (n<=hi)
theorem aD{n lo hi:Int} : inB n lo hi=true<->lo<=n/\n<=hi:=by simp[inB]
theorem eC{n lo hi:Int} : inB n lo hi=false<->n<lo∨hi<n:=by
 rw[←Bool.not_eq_true,aD];omega
theorem ni(n lo hi:Int)(w:World) :
  Calls Tryz.prog 40 #[.int .i64 n,.int .i64 lo,.int .i64 hi] w fun e w'=>e = .returned (.bool (inB n lo hi))/\w'=w:=by
 by_cases h:lo<=n
 · go_enter Tryz.func40,Tryz.ntmps40;go_wp2;go_ret;exact⟨ak (by simp[inB,h]),rfl⟩
 · go_enter Tryz.func40,Tryz.ntmps40;go_wp2;go_ret;exact⟨ak (by simp[inB];omega),rfl⟩
end Go.Proofs.YtkpfkgoiaicgbaaGreatDoor
namespace Go.Proofs.YtkpfkgoiaicgbaaGreatDoor
def bT:List UInt8->Nat
 | []=>0
 | b :: l=>b.toNat+256*bT l
theorem gh(a b:List UInt8):bT (a++b)=bT a+2 ^ (8*a.length)*bT b:=by
 induction a with
 | nil=>simp[bT]
 | cons x a ih=>
  simp only[List.cons_append,bT,ih,List.length_cons];have e:2 ^ (8*(a.length+1))=256*2 ^ (8*a.length):=by rw[Nat.mul_add,Nat.pow_add,Nat.mul_comm]
  rw[e,Nat.mul_add,Nat.mul_assoc];omega
theorem nS(l:List UInt8):bT l<2 ^ (8*l.length):=by
 induction l with
 | nil=>simp[bT]
 | cons x l ih=>
  simp only[bT,List.length_cons];have e:2 ^ (8*(l.length+1))=256*2 ^ (8*l.length):=by rw[Nat.mul_add,Nat.pow_add,Nat.mul_comm]
  rw[e];have:=x.toNat_lt;omega
theorem yL(l:List UInt8)(j:Nat):bT l/2 ^ (8*j)%256=(l.getD j 0).toNat:=by
 induction l generalizing j with
 | nil=>simp[bT]
 | cons x l ih=>
  have hx:=x.toNat_lt;cases j with
  | zero=>
   simp only[bT,Nat.mul_zero,Nat.pow_zero,Nat.div_one,List.getD_cons_zero];omega
  | succ j=>
   simp only[bT,List.getD_cons_succ];rw[←ih j,show 8*(j+1)=8+8*j by omega,Nat.pow_add,←Nat.div_div_eq_div_mul]
   congr 2
   show(x.toNat+256*bT l)/256=bT l;omega
theorem LC(l:List UInt8)(p:Nat):(l.getD (p/8) 0).toNat/2 ^ (p%8)%2=bT l/2 ^ p%2:=by
 rw[←yL];have e8:256=2 ^ (p%8)*2 ^ (8-p%8):=by
  rw[←Nat.pow_add,show p%8+(8-p%8)=8 by omega]
 have e2:2∣2 ^ (8-p%8):=by
  rw[show 8-p%8=(7-p%8)+1 by omega,Nat.pow_succ];exact Nat.dvd_mul_left _ _
 rw[e8,Nat.mod_mul_right_div_self,Nat.mod_mod_of_dvd _ e2,Nat.div_div_eq_div_mul,←Nat.pow_add,show 8*(p/8)+p%8=p by omega]
theorem FF(l:List UInt8)(p:Nat)(h:8*l.length<=p):bT l/2 ^ p%2=0:=by
 rw[Nat.div_eq_of_lt (Nat.lt_of_lt_of_le (nS l) (Nat.pow_le_pow_right (by omega) h))]
def bw:List Nat:=[16,17,18,0,8,7,9,6,10,5,11,4,12,3,13,2,14,1,15]
open Go.RowKit
theorem tY(n:Int)(w:World) :
  Calls Tryz.prog 134 #[.int .i64 n] w fun e w'=>e = .returned (.bool (inB n 0 4294967295))/\w'=w:=by
 by_cases h:0<=n
 · go_enter Tryz.func134,Tryz.ntmps134;go_wp2;go_ret;exact⟨ak (by simp[inB,h]),rfl⟩
 · go_enter Tryz.func134,Tryz.ntmps134;go_wp2;go_ret;exact⟨ak (by simp[inB];omega),rfl⟩
end Go.Proofs.YtkpfkgoiaicgbaaGreatDoor
namespace Go.Proofs.YtkpfkgoiaicgbaaGreatDoor
open Go.RowKit Corb
theorem Lf(x:Nat)(h:x<4294967296):bits .and .u32 (x:Int) 1=(x:Int)%2:=by
 have:=u32_and_nat x 1 h (by omega);rw[show((1:Nat):Int)=1 from rfl]at this;rw[this,nat_mask1];omega
theorem Jf(x:Nat)(h:x<4294967296):bits .xor .u32 ((x:Int)/2) 3988292384=((x/2 ^^^ 3988292384:Nat):Int):=by
 have:=u32_xor_nat (x/2) 3988292384 (by omega) (by omega);rw[show((x/2:Nat):Int)=(x:Int)/2 by omega]at this;exact this
theorem Mi(x:Nat)(h:x%2=1):sh x=x/2 ^^^ 3988292384:=if_pos h
theorem KW(x:Nat)(h:¬ x%2=1):sh x=x/2:=if_neg h
theorem uB(r n:Int)(w:World)(hr0:0<=r)(hr1:r<4294967296)(hn0:0<=n)(hn1:n<=1000000) :
  Calls Tryz.prog 173 #[.int .u32 r,.int .i64 n] w fun e w'=>e = .returned (.int .u32 (shN n.toNat r.toNat:Nat))/\w'=w:=by
 obtain⟨R,rfl⟩:=Int.eq_ofNat_of_zero_le hr0;obtain⟨m,rfl⟩:=Int.eq_ofNat_of_zero_le hn0;rw[Int.toNat_natCast,Int.toNat_natCast];go_enter Tryz.func173,Tryz.ntmps173;go_wp2
 go_loop [0,6] (fun x i=>∃k:Nat,k<=m/\i = .int .i64 k/\x = .int .u32 (shN k R:Nat)) (fun _ i=>m-(intOf i).toNat)
 case atStart=>exact⟨0,Nat.zero_le _,rfl,rfl⟩
 case round=>
  obtain⟨k,hk,rfl,rfl⟩:=hrel;have hx:=vr k R (by omega);have hs:=af (Ev k R);by_cases hlt:k<m
  ·
   generalize hX:shN k R=x at *
   clear hX;have h1:=Lf x hx;have h2:=Jf x hx;by_cases ho:x%2=1
   ·
    have ho':(x:Int)%2=1:=by omega
    have H:=af ho;clear ho;go_wp2
    go_round
    case rel=>exact⟨k+1,by omega,by go_num,by rw[ae hs,Mi x (ae H)]⟩
    case measure=>simp[intOf];omega
   ·
    have ho':(x:Int)%2=0:=by omega
    have H:=af ho;clear ho;go_wp2
    go_round
    case rel=>exact⟨k+1,by omega,by go_num,by rw[ae hs,KW x (ae H)];rfl⟩
    case measure=>simp[intOf];omega
  · go_wp2;go_ret;exact⟨aR (by rw[show k=m by omega]),rfl⟩
theorem vy(x:Nat)(b:Nat)(h:x<4294967296)(hb:b<256):bits .xor .u32 (x:Int) (b:Int)=((x ^^^ b:Nat):Int):=
 u32_xor_nat x b h (by omega)
theorem ED(s:ByteArray)(k:Nat)(h:k<s.size):s.data.toList.take (k+1)=s.data.toList.take k++[s[k]]:=by
 rw[List.take_succ_eq_append_getElem (by simpa using h)];rfl
theorem Dp(c:Nat)(l:List UInt8)(b:UInt8):fold c (l++[b])=shN 8 (fold c l ^^^ b.toNat):=by
 rw[wz];rfl
def cmI(c:Int)(l:List UInt8):Int:=if inB c 0 4294967295=true then(aQ c.toNat l:Nat)else -1
theorem Ba{c:Int}{l:List UInt8}(h:inB c 0 4294967295=true):cmI c l=(aQ c.toNat l:Nat):=if_pos h
theorem LJ{c:Int}{l:List UInt8}(h:inB c 0 4294967295=false):cmI c l = -1:=if_neg (by simp[h])
end Go.Proofs.YtkpfkgoiaicgbaaGreatDoor
namespace Go.Proofs.YtkpfkgoiaicgbaaGreatDoor
theorem eg{a b:ByteArray}(h:a.data.toList=b.data.toList):a=b:=ByteArray.ext (Array.toList_inj.1 h)
end Go.Proofs.YtkpfkgoiaicgbaaGreatDoor
set_option linter.unusedSimpArgs false
set_option linter.unusedVariables false
set_option maxHeartbeats 800000
namespace Go.Proofs.YtkpfkgoiaicgbaaGreatDoor
open Go.ChangeShapes Go.WideShapes Go.ChangeAt Go.RowKit
section
variable {H : Type} {enc : TypeId × Value → H} {P : Program} {w : World} {base : Nat} {spare : Nat → Bool} {held : Bool}
end
end Go.Proofs.YtkpfkgoiaicgbaaGreatDoor
namespace Go.Proofs.YtkpfkgoiaicgbaaGreatDoor
open Go.RowKit
def di(a b:List UInt8):Bool:=(a++[47]).isPrefixOf b
theorem ET{a b:ByteArray}(h:b.size<=a.size):di a.data.toList b.data.toList=false:=by
 cases e:di a.data.toList b.data.toList
 · rfl
 ·
  have:=(List.isPrefixOf_iff_prefix.1 e).length_le;have e1:a.data.toList.length=a.size:=by simp
  have e2:b.data.toList.length=b.size:=by simp
  rw[List.length_append]at this;simp only[List.length_cons,List.length_nil]at this;omega
theorem ER{a b:ByteArray}(k:¬ (b.data.toList.take a.size)=a.data.toList):di a.data.toList b.data.toList=false:=by
 cases e:di a.data.toList b.data.toList
 · rfl
 ·
  exfalso;apply k;obtain⟨t,ht⟩:=List.isPrefixOf_iff_prefix.1 e;rw[←ht];have e1:a.data.toList.length=a.size:=by simp
  rw[List.append_assoc,←e1,List.take_left'];rfl
theorem Jh{a b:ByteArray}(h:a.size<b.size)(k:(b.data.toList.take a.size)=a.data.toList):di a.data.toList b.data.toList=(b[a.size] == 47):=by
 have e2:b.data.toList.length=b.size:=by simp
 have hl:a.size<b.data.toList.length:=by omega
 have e3:b.data.toList=a.data.toList++(b[a.size] :: b.data.toList.drop (a.size+1)):=by
  have:=List.take_append_drop a.size b.data.toList;rw[k,List.drop_eq_getElem_cons hl]at this;exact this.symm
 unfold di;rw[e3];cases hb:(b[a.size] == 47)
 ·
  cases e:(a.data.toList++[47]).isPrefixOf (a.data.toList++(b[a.size] :: b.data.toList.drop (a.size+1)))
  · rfl
  · have:=List.isPrefixOf_iff_prefix.1 e;rw[List.prefix_append_right_inj]at this;obtain⟨t,ht⟩:=this;simp only[List.cons_append,List.nil_append,List.cons.injEq]at ht;rw[←ht.1]at hb;simp at hb
 · rw[List.isPrefixOf_iff_prefix,List.prefix_append_right_inj];rw[beq_iff_eq.1 hb];exact⟨_,rfl⟩
theorem Bh(b:ByteArray)(k:Nat):(b.extract 0 k).toList=b.data.toList.take k:=by
 rw[Lib.toList_data,Lib.extract_data];simp
theorem FL(x:UInt8):((x.toNat:Int) == 47)=(x == 47):=by
 cases e:(x == 47)
 ·
  have:¬ x.toNat=47:=fun h=>by rw[UInt8.toNat_inj.1 (show x.toNat=(47:UInt8).toNat from h)]at e;cases e
  simp;omega
 · rw[beq_iff_eq.1 e];rfl
theorem wV(a b:ByteArray)(w:World)(ha:(a.size:Int)<=1048576)(_:(b.size:Int)<=1048576) :
  Calls Tryz.prog 16 #[.string a,.string b] w fun e w'=>e = .returned (.bool (di a.data.toList b.data.toList))/\w'=w:=by
 by_cases h:a.size<b.size
 ·
  have hI:(a.size:Int)<(b.size:Int):=by omega
  by_cases k:(b.data.toList.take a.size)=a.data.toList
  ·
   have HU:=af (Jh h k);have hx:(b.extract 0 a.size).toList=a.toList:=by rw[Bh,k,Lib.toList_data]
   go_enter Tryz.func16,Tryz.ntmps16;go_wp2;go_ret;exact⟨ak ((FL _).trans (ae HU).symm),rfl⟩
  · have HU:=af (ER k);have hx:¬ (b.extract 0 a.size).toList=a.toList:=fun e=>k (by rw[←Bh,e,Lib.toList_data]);go_enter Tryz.func16,Tryz.ntmps16;go_wp2;go_ret;exact⟨ak (ae HU).symm,rfl⟩
 ·
  have HU:=af (ET (a:=a) (b:=b) (by omega));have hI:¬ (a.size:Int)<(b.size:Int):=by omega
  go_enter Tryz.func16,Tryz.ntmps16;go_wp2;go_ret;exact⟨ak (ae HU).symm,rfl⟩
abbrev KVs:=List ((ByteArray×Value)×Nat)
def me(x:(ByteArray×Value)×Nat):MapEntry:={ key:=.string x.1.1,val:=x.1.2,born:=x.2 }
def cf:KVs->ByteArray->Option (Nat×Value)
 | [],_=>none
 | x :: l,k=>if k=x.1.1 then some (0,x.1.2)else(cf l k).map fun q=>(q.1+1,q.2)
def ye:KVs->ByteArray->Value->KVs
 | [],_,_=>[]
 | x :: l,k,v=>if k=x.1.1 then((k,v),x.2) :: l else x :: ye l k v
def jR(w:World)(b:Nat)(m:ByteArray->Option Value):Prop:=∃(kv:KVs) (c:Nat),w.heap[b]?=some (.map (kv.map me).toArray c)/\∀p,(cf kv p).map (·.2)=m p
def Eo(m:ByteArray->Option Value)(k:ByteArray)(v:Value):ByteArray->Option Value:=fun q=>if q=k then some v else m q
theorem xy(w:World):jR (w.alloc (.map #[] 0)) w.heap.size (fun _=>none):=⟨[],0,World.alloc_heap_new w _,fun _=>rfl⟩
theorem jR.lt{w:World}{b:Nat}{m:ByteArray->Option Value}(h:jR w b m):b<w.heap.size:=by
 obtain⟨kv,c,e,_⟩:=h;exact(Array.getElem?_eq_some_iff.1 e).1
theorem jR.later{w w':World}{b B:Nat}{m:ByteArray->Option Value}(h:jR w b m)(hb:Below B w w')(hB:b<B):jR w' b m:=by
 obtain⟨kv,c,e,k⟩:=h;exact⟨kv,c,(hb.block b hB).trans e,k⟩
theorem AV(k:ByteArray):(k == k)=true:=by
 rw[show(k == k)=(k.data == k.data)from rfl];simp
theorem Mz{k x:ByteArray}(h:¬ k=x):(k == x)=false:=by
 rw[show(k == x)=(k.data == x.data)from rfl];rw[beq_eq_false_iff_ne];exact fun e=>h (ByteArray.ext e)
theorem Bi(k:ByteArray)(kv:KVs)(i:Nat):Instr.findNow .string (.string k) (kv.map me) i=some ((cf kv k).map fun q=>(i+q.1,q.2)):=by
 induction kv generalizing i with
 | nil=>rfl
 | cons x kv ih=>
  unfold cf;simp only[List.map_cons,Instr.findNow,me,Instr.sameNow];by_cases h:k=x.1.1
  ·
   have e:(k == x.1.1)=true:=by rw[h];exact AV _
   rw[e,if_pos h];rfl
  · have e:(k == x.1.1)=false:=Mz h;rw[e,if_neg h];show Instr.findNow .string (.string k) (kv.map me) (i+1)=_;rw[ih];cases cf kv k<;>simp;omega
theorem zk{kt:TypeId}(hk:Tryz.prog.underlying kt=some .string)(em:Bool)(k:ByteArray)(w:World)(n:Nat):(Instr.checkKey em (n+1) kt (.string k)).run Tryz.prog w = .ok () w:=by
 simp[Instr.checkKey,run_underlying hk,Result.andThen]
theorem F6{kv:KVs}{k:ByteArray}{i:Nat}{v:Value}(h:cf kv k=some (i,v)):∃n,kv[i]?=some ((k,v),n):=by
 induction kv generalizing i with
 | nil=>cases h
 | cons x kv ih=>
  unfold cf at h
  split at h
  · rename_i e;simp only[Option.some.injEq,Prod.mk.injEq]at h;obtain⟨rfl,rfl⟩:=h;exact⟨x.2,by simp[e]⟩
  · obtain⟨q,hq,e⟩:=Option.map_eq_some_iff.1 h;simp only[Prod.mk.injEq]at e;obtain⟨rfl,rfl⟩:=e;simpa using ih hq
theorem Mh{kv:KVs}{k:ByteArray}{i:Nat}{v0 v:Value}(h:cf kv k=some (i,v0)):(kv.map me).modify i (fun e=>{ e with key:=.string k,val:=v })=(ye kv k v).map me:=by
 induction kv generalizing i with
 | nil=>cases h
 | cons x kv ih=>
  unfold cf at h;unfold ye
  split at h
  · rename_i e;simp only[Option.some.injEq,Prod.mk.injEq]at h;obtain⟨rfl,rfl⟩:=h;rw[if_pos e];simp[me]
  · rename_i e;obtain⟨q,hq,e2⟩:=Option.map_eq_some_iff.1 h;simp only[Prod.mk.injEq]at e2;obtain⟨rfl,rfl⟩:=e2;rw[if_neg e];simp[ih hq]
theorem Df{kv:KVs}{k:ByteArray}{r:Nat×Value}{v:Value}(h:cf kv k=some r)(q:ByteArray):(cf (ye kv k v) q).map (·.2)=if q=k then some v else(cf kv q).map (·.2):=by
 induction kv generalizing r with
 | nil=>cases h
 | cons x kv ih=>
  unfold cf at h;unfold ye
  split at h
  ·
   rename_i e;rw[if_pos e];unfold cf;by_cases hq:q=k
   · simp[hq]
   · have:¬ q=x.1.1:=fun e2=>hq (e2.trans e.symm);simp[hq,this]
  ·
   rename_i e;obtain⟨r,hr,_⟩:=Option.map_eq_some_iff.1 h;rw[if_neg e];unfold cf;by_cases hq:q=x.1.1
   · have:¬ q=k:=fun e2=>e (e2.symm.trans hq);rw[if_pos hq,if_neg this,if_pos hq]
   · rw[if_neg hq,if_neg hq];have:=ih hr;simp only[Option.map_map]at this ⊢;exact this
theorem zy{kv:KVs}{k:ByteArray}{v:Value}{c:Nat}(h:cf kv k=none)(q:ByteArray):(cf (kv++[((k,v),c)]) q).map (·.2)=if q=k then some v else(cf kv q).map (·.2):=by
 induction kv with
 | nil=>simp only[List.nil_append,cf];split<;>simp
 | cons x kv ih=>
  unfold cf at h
  split at h
  · cases h
  ·
   rename_i e;have h':cf kv k=none:=by simpa using h
   simp only[List.cons_append];unfold cf;by_cases hq:q=x.1.1
   · have:¬ q=k:=fun e2=>e (e2.symm.trans hq);rw[if_pos hq,if_neg this,if_pos hq]
   · rw[if_neg hq,if_neg hq];have:=ih h';simp only[Option.map_map]at this ⊢;exact this
theorem xz{t kt et:TypeId}(hu:Tryz.prog.underlying t=some (.map kt et))(hk:Tryz.prog.underlying kt=some .string)(w:World)(b:Nat)(m:ByteArray->Option Value)(k:ByteArray)(v:Value)(h:jR w b m) :
  ∃w',(Instr.mapUpdate t (.map (some b)) (.string k) v).run Tryz.prog w = .ok () w'/\jR w' b (Eo m k v)/\∃es c,w'=w.putObj b (.map es c):=by
 have hb:=h.lt;obtain⟨kv,c,e,hm⟩:=h;have hf:=Bi k kv 0;cases hx:cf kv k with
 | none=>
  rw[hx]at hf;refine⟨w.putObj b (.map ((kv++[((k,v),c)]).map me).toArray (c+1)),?_,⟨kv++[((k,v),c)],c+1,World.putObj_heap_same hb,fun p=>?_⟩,_,_,rfl⟩
  · simp[Instr.mapUpdate,run_underlying hu,run_underlying hk,MapKept.run_getObj_map e,zk hk,Instr.findKey,hf,MapKept.run_setObj_map _ e,Result.andThen,World.putObj,me]
  · rw[zy hx,hm];rfl
 | some q=>
  obtain⟨i,v0⟩:=q;rw[hx]at hf;obtain⟨n0,hn0⟩:=F6 hx;have hkey:((((kv.map me).toArray)[i]?).map (·.key)).getD (.string k) = .string k:=by simp[hn0,me]
  have hmod:((kv.map me).toArray.modify i fun e=>{ e with key:=.string k,val:=v })=((ye kv k v).map me).toArray:=by
   rw[←Mh hx];simp
  refine⟨w.putObj b (.map ((ye kv k v).map me).toArray c),?_,⟨ye kv k v,c,World.putObj_heap_same hb,fun p=>?_⟩,_,_,rfl⟩
  ·
   have hs:Instr.sameBits 10000 (.string k) (.string k)=true:=by simp[Instr.sameBits,AV]
   have hf2:Instr.findNow .string (.string k) (kv.map me) 0=some (some (i,v0)):=by rw[hf];simp
   unfold Instr.mapUpdate;simp only[run_underlying hu,run_underlying hk,MapKept.run_getObj_map e,zk hk,Instr.findKey,hf2,Result.andThen,Sem.run_bind,Sem.run_pure,hkey,Instr.keyThatStays,hs,if_true,hmod,MapKept.run_setObj_map _ e];rfl
  · rw[Df hx,hm];rfl
theorem GZ{t kt et:TypeId}(hu:Tryz.prog.underlying t=some (.map kt et))(hk:Tryz.prog.underlying kt=some .string)(w:World)(b:Nat)(m:ByteArray->Option Value)(k:ByteArray)(v:Value)(h:jR w b m)(hv:m k=some v) :
  (Instr.lookup t (.map (some b)) (.string k) false).run Tryz.prog w = .ok v w:=by
 obtain⟨kv,c,e,hm⟩:=h;have hf:=Bi k kv 0;have hp:=hm k;rw[hv]at hp;obtain⟨q,hq,hq2⟩:=Option.map_eq_some_iff.1 hp;obtain⟨i,v0⟩:=q;obtain rfl:v0=v:=hq2;rw[hq]at hf;simp[Instr.lookup,run_underlying hu,run_underlying hk,MapKept.run_getObj_map e,zk hk,Instr.findKey,hf,Result.andThen]
def iE(w:World)(b:Nat)(es:List (Int×Value)):Prop:=
 w.heap[b]?=some (.map ((es.zipIdx.map fun(x,i)=>({ key:=.int .i64 x.1,val:=x.2,born:=i } : MapEntry)).toArray) es.length)
theorem BG(w:World):iE (w.alloc (.map #[] 0)) w.heap.size []:=World.alloc_heap_new w _
theorem qB(k:Int)(d:IntKind)(es:List MapEntry)(i:Nat)(h:∀e∈es,∃x,e.key = .int .i64 x/\x≠k):Instr.findNow (.int d) (.int .i64 k) es i=some none:=by
 induction es generalizing i with
 | nil=>rfl
 | cons e es ih=>
  obtain⟨x,e1,hx⟩:=h e (by simp);have:(k == x)=false:=by simpa using fun e=>hx e.symm
  simp only[Instr.findNow,e1,Instr.sameNow,if_true,this];exact ih _ (fun e he=>h e (by simp[he]))
theorem LH{kt:TypeId}{d:IntKind}(hk:Tryz.prog.underlying kt=some (.int d))(em:Bool)(k:Int)(w:World)(n:Nat):(Instr.checkKey em (n+1) kt (.int .i64 k)).run Tryz.prog w = .ok () w:=by
 simp[Instr.checkKey,run_underlying hk,Result.andThen]
theorem zj{kt:TypeId}{d:IntKind}(hk:Tryz.prog.underlying kt=some (.int d))(em:Bool)(k:Int)(w:World):(Instr.checkKey em 10000 kt (.int .i64 k)).run Tryz.prog w = .ok () w:=LH hk em k w 9999
theorem lu{t kt et:TypeId}{d:IntKind}(hu:Tryz.prog.underlying t=some (.map kt et))(hk:Tryz.prog.underlying kt=some (.int d))(w:World)(b:Nat)(es:List (Int×Value))(k:Int)(v:Value)(h:iE w b es)(hn:∀x∈es,x.1≠k) :
  ∃w',(Instr.mapUpdate t (.map (some b)) (.int .i64 k) v).run Tryz.prog w = .ok () w'/\iE w' b (es++[(k,v)])/\w'=w.putObj b (.map (((es++[(k,v)]).zipIdx.map fun(x,i)=>({ key:=.int .i64 x.1,val:=x.2,born:=i } : MapEntry)).toArray) (es++[(k,v)]).length):=by
 have hb:b<w.heap.size:=(Array.getElem?_eq_some_iff.1 h).1;have hf:Instr.findNow (.int d) (.int .i64 k) (es.zipIdx.map fun(x,i)=>({ key:=.int .i64 x.1,val:=x.2,born:=i } : MapEntry)) 0=some none:=by
  refine qB k d _ 0 (fun e he=>?_);obtain⟨⟨x,i⟩,hx,rfl⟩:=List.mem_map.1 he;refine⟨x.1,rfl,hn x ?_⟩;have:=List.mem_zipIdx hx;rw[this.2.2];exact List.getElem_mem _
 refine⟨_,?_,?_,rfl⟩
 · unfold iE at h;simp[Instr.mapUpdate,run_underlying hu,run_underlying hk,MapKept.run_getObj_map h,zj hk,Instr.findKey,hf,MapKept.run_setObj_map _ h,Result.andThen,World.putObj,List.zipIdx_append]
 · unfold iE;exact World.putObj_heap_same hb
theorem wl(k:Int)(d:IntKind)(v:Value)(A:List (Int×Value)):∀(i:Nat),(k,v)∈A->(A.map Prod.fst).Nodup->∃j,Instr.findNow (.int d) (.int .i64 k) ((A.zipIdx i).map fun(x,i)=>({ key:=.int .i64 x.1,val:=x.2,born:=i } : MapEntry)) i=some (some (j,v)):=by
 induction A with
 | nil=>intro i h;cases h
 | cons a A ih=>
  intro i h hd;simp only[List.map_cons,List.nodup_cons]at hd;rcases List.mem_cons.1 h with rfl|h
  · exact⟨i,by simp[Instr.findNow,Instr.sameNow]⟩
  ·
   obtain⟨j,hj⟩:=ih (i+1) h hd.2;have hne:¬ k=a.1:=fun e=>hd.1 (by rw[←e];exact List.mem_map_of_mem (f:=Prod.fst) h);have hb:(k == a.1)=false:=by simpa using hne
   refine⟨j,?_⟩;simp only[List.zipIdx_cons,List.map_cons,Instr.findNow,Instr.sameNow,if_true,hb];exact hj
theorem BF{t kt et:TypeId}{d:IntKind}(hu:Tryz.prog.underlying t=some (.map kt et))(hk:Tryz.prog.underlying kt=some (.int d))(w:World)(b:Nat)(es:List (Int×Value))(k:Int)(v:Value)(co:Bool)(h:iE w b es)(hm:(k,v)∈es)(hd:(es.map Prod.fst).Nodup) :
  (Instr.lookup t (.map (some b)) (.int .i64 k) co).run Tryz.prog w = .ok (if co then .tuple #[v,.bool true]else v) w:=by
 obtain⟨j,hj⟩:=wl k d v es 0 hm hd;unfold iE at h;simp[Instr.lookup,run_underlying hu,run_underlying hk,MapKept.run_getObj_map h,zj hk,Instr.findKey,hj,Result.andThen]
theorem map_none{t kt et:TypeId}{d:IntKind}(hu:Tryz.prog.underlying t=some (.map kt et))(hk:Tryz.prog.underlying kt=some (.int d))(w:World)(b:Nat)(es:List (Int×Value))(k:Int)(z:Value)(h:iE w b es)(hn:∀x∈es,x.1≠k)(hz:(zeroValue et).run Tryz.prog w = .ok z w) :
  (Instr.lookup t (.map (some b)) (.int .i64 k) true).run Tryz.prog w = .ok (.tuple #[z,.bool false]) w:=by
 have hf:Instr.findNow (.int d) (.int .i64 k) (es.zipIdx.map fun(x,i)=>({ key:=.int .i64 x.1,val:=x.2,born:=i } : MapEntry)) 0=some none:=by
  refine qB k d _ 0 (fun e he=>?_);obtain⟨⟨x,i⟩,hx,rfl⟩:=List.mem_map.1 he;refine⟨x.1,rfl,hn x ?_⟩;have:=List.mem_zipIdx hx;rw[this.2.2];exact List.getElem_mem _
 unfold iE at h;simp[Instr.lookup,run_underlying hu,run_underlying hk,MapKept.run_getObj_map h,zj hk,Instr.findKey,hf,hz,Result.andThen]
theorem iE.later{w w':World}{b:Nat}{es:List (Int×Value)}(h:iE w b es)(hb:Below w.heap.size w w'):iE w' b es:=(hb.block b (Array.getElem?_eq_some_iff.1 h).1).trans h
end Go.Proofs.YtkpfkgoiaicgbaaGreatDoor
