/- Of what the proof is made: 7 texts, one behind the other. -/
import Derived.Test.YtlpmnnjlmjffpaaGreatDoorRows
import Derived.WalkKit
import Derived.WalkSpells
import Derived.Below
import Derived.Laws.BitsAllLaws
import Derived.Test.YtlpmnnjlmjffpaaGreatDoorM2
import Derived.Test.YtlpmnnjlmjffpaaGreatDoorM1
set_option linter.unusedSimpArgs false
set_option linter.unusedVariables false
set_option maxHeartbeats 400000
namespace Go.Proofs.YtlpmnnjlmjffpaaGreatDoor
open Go.Proofs.Tryz
open Go.RowKit
set_option linter.defProp false
abbrev CD(f:Nat)(a:Array Value)(w:World)(v:Value):Prop:=Calls prog f a w fun e w'=>e = .returned v/\Below w.heap.size w w'
def a0c := @Below.refl
def a0I := @underlying65
def a0M := @underlying22
def a0S := @Below.heap_setCell
def a1f := @func282
def a1g := @ntmps282
def a1J := @func296
def a1K := @ntmps296
def a1W := @func283
def a1X := @ntmps283
def a2c := @underlying27
def a2h := @Below.heap_alloc
def a2l := @underlying24
def a2u := @underlying5
def a2v := @underlying9
def a2y := @results58
def a2z := @results26
def a2C := @underlying3
def a2E := @func142
def a2F := @ntmps142
def a2Q := @func58
def a2R := @ntmps58
def a2Y := @func123
def a2Z := @ntmps123
def a3a := @underlying222
def a3k := @func81
def a3l := @ntmps81
def a3m := @results21
def a3r := @func145
def a3s := @ntmps145
def a3t := @func179
def a3u := @ntmps179
def a3v := @func151
def a3w := @ntmps151
def a3x := @func112
def a3y := @ntmps112
def a3B := @func208
def a3C := @ntmps208
def a3G := @run_convert_bytes_back
def a3I := @underlying278
def a3L := @underlying346
def a3S := @ntmps88
def a3U := @ntmps57
theorem af{p:Prop}(h:p):Hid p:=h
theorem ae{p:Prop}(h:Hid p):p:=h
theorem aP{k:IntKind}{a b:Int}(h:a=b):Ending.returned (.int k a) = .returned (.int k b):=by rw[h]
theorem am{a b:Bool}(h:a=b):Ending.returned (.bool a) = .returned (.bool b):=by rw[h]
def inB(n lo hi:Int):Bool:=decide (lo<=n)&&decide (n<=hi)
theorem aI{n lo a:Int} : inB n lo a=true<->lo<=n/\n<=a:=by simp[inB]
theorem dW{n lo a:Int} : inB n lo a=false<->n<lo∨a<n:=by
 rw[←a2T,aI];omega
theorem aF(n lo a:Int)(w:World) :
  Calls prog 54 #[.int .i64 n,.int .i64 lo,.int .i64 a] w fun e w'=>e = .returned (.bool (inB n lo a))/\w'=w:=by
 by_cases h:lo<=n
 . go_enter func54,ntmps54;go_wp2;go_ret;exact⟨am (by simp[inB,h]),rfl⟩
 . go_enter func54,ntmps54;go_wp2;go_ret;exact⟨am (by simp[inB];omega),rfl⟩
def cb:List UInt8->Nat
 | []=>0
 | b :: l=>b.toNat+256*cb l
theorem gX(a b:List UInt8):cb (a++b)=cb a+2 ^ (8*a.length)*cb b:=by
 induction a with
 | nil=>simp[cb]
 | cons x a ih=>
  simp only[a12,cb,ih,a0B];have e:2 ^ (8*(a.length+1))=256*2 ^ (8*a.length):=by rw[a2q,a0P,a1q]
  rw[e,a2q,a1P];omega
theorem pe(l:List UInt8):cb l<2 ^ (8*l.length):=by
 induction l with
 | nil=>simp[cb]
 | cons x l ih=>
  simp only[cb,a0B];have e:2 ^ (8*(l.length+1))=256*2 ^ (8*l.length):=by rw[a2q,a0P,a1q]
  rw[e];have:=x.toNat_lt;omega
theorem AJ(l:List UInt8)(j:Nat):cb l/2 ^ (8*j)%256=(l.getD j 0).toNat:=by
 induction l generalizing j with
 | nil=>simp[cb]
 | cons x l ih=>
  have a:=x.toNat_lt;cases j with
  | zero=>
   simp only[cb,Nat.mul_zero,Nat.pow_zero,Nat.div_one,List.getD_cons_zero];omega
  | succ j=>
   simp only[cb,a2U];rw[←ih j,show 8*(j+1)=8+8*j by omega,a0P,←a10]
   congr 2
   show(x.toNat+256*cb l)/256=cb l;omega
theorem N7(l:List UInt8)(p:Nat):(l.getD (p/8) 0).toNat/2 ^ (p%8)%2=cb l/2 ^ p%2:=by
 rw[←AJ];have e8:256=2 ^ (p%8)*2 ^ (8-p%8):=by
  rw[←a0P,show p%8+(8-p%8)=8 by omega]
 have e2:2∣2 ^ (8-p%8):=by
  rw[show 8-p%8=(7-p%8)+1 by omega,a1s];exact Nat.dvd_mul_left _ _
 rw[e8,a3n,Nat.mod_mod_of_dvd _ e2,a10,←a0P,show 8*(p/8)+p%8=p by omega]
theorem IA(l:List UInt8)(p:Nat)(h:8*l.length<=p):cb l/2 ^ p%2=0:=by
 rw[a11 (a0j (pe l) (a0K (by omega) h))]
def bp:List Nat:=[16,17,18,0,8,7,9,6,10,5,11,4,12,3,13,2,14,1,15]
theorem vG(n:Int)(w:World) :
  Calls prog 154 #[.int .i64 n] w fun e w'=>e = .returned (.bool (inB n 0 4294967295))/\w'=w:=by
 by_cases h:0<=n
 . go_enter func154,ntmps154;go_wp2;go_ret;exact⟨am (by simp[inB,h]),rfl⟩
 . go_enter func154,ntmps154;go_wp2;go_ret;exact⟨am (by simp[inB];omega),rfl⟩
open Corb
theorem Nt(x:Nat)(h:x<4294967296):bits .and .u32 (x:Int) 1=(x:Int)%2:=by
 have:=u32_and_nat x 1 h (by omega);rw[show((1:Nat):Int)=1 from rfl]at this;rw[this,nat_mask1];omega
theorem AE(x:Nat)(h:x<4294967296):bits .xor .u32 ((x:Int)/2) 3988292384=((x/2 ^^^ 3988292384:Nat):Int):=by
 have:=a2B (x/2) 3988292384 (by omega) (by omega);rw[show((x/2:Nat):Int)=(x:Int)/2 by omega]at this;exact this
theorem KP(x:Nat)(h:x%2=1):sh x=x/2 ^^^ 3988292384:=a0e h
theorem EA(x:Nat)(h:¬ x%2=1):sh x=x/2:=a0d h
theorem wt(r n:Int)(w:World)(d:0<=r)(o:r<4294967296)(b:0<=n)(l:n<=1000000) :
  Calls prog 182 #[.int .u32 r,.int .i64 n] w fun e w'=>e = .returned (.int .u32 (shN n.toNat r.toNat:Nat))/\w'=w:=by
 obtain⟨R,rfl⟩:=a0r d;obtain⟨m,rfl⟩:=a0r b;rw[a0l,a0l];go_enter func182,ntmps182;go_wp2
 go_loop [0,6] (fun x i=>∃k:Nat,k<=m/\i = .int .i64 k/\x = .int .u32 (shN k R:Nat)) (fun _ i=>m-(intOf i).toNat)
 case atStart=>exact⟨0,a0g _,rfl,rfl⟩
 case round=>
  obtain⟨k,q,rfl,rfl⟩:=hrel;have g:=tH k R (by omega);have f:=af (vD k R);by_cases j:k<m
  .
   generalize h:shN k R=x at *
   clear h;have p:=Nt x g;have h2:=AE x g;by_cases a:x%2=1
   .
    have c:(x:Int)%2=1:=by omega
    have H:=af a;clear a;go_wp2
    go_round
    case rel=>exact⟨k+1,by omega,by go_num,by rw[ae f,KP x (ae H)]⟩
    case measure=>simp[intOf];omega
   .
    have c:(x:Int)%2=0:=by omega
    have H:=af a;clear a;go_wp2
    go_round
    case rel=>exact⟨k+1,by omega,by go_num,by rw[ae f,EA x (ae H)];rfl⟩
    case measure=>simp[intOf];omega
  . go_wp2;go_ret;exact⟨aP (by rw[show k=m by omega]),rfl⟩
theorem pd(x:Nat)(b:Nat)(h:x<4294967296)(hb:b<256):bits .xor .u32 (x:Int) (b:Int)=((x ^^^ b:Nat):Int):=
 a2B x b h (by omega)
theorem Cc(c b:Int)(w:World)(h:0<=c)(s:c<4294967296)(f:0<=b)(r:b<256) :
  Calls prog 144 #[.int .u32 c,.int .u8 b] w fun e w'=>e = .returned (.int .u32 (shN 8 (c.toNat ^^^ b.toNat):Nat))/\w'=w:=by
 obtain⟨R,rfl⟩:=a0r h;obtain⟨B,rfl⟩:=a0r f;rw[a0l,a0l];have j:=pd R B (by omega) (by omega);have a:R ^^^ B<4294967296:=a1O (n:=32) (by omega) (by omega);generalize R ^^^ B=X at *
 go_enter func144,ntmps144;go_wp2
 go_loop [0,5] (fun x i=>∃k:Nat,k<=8/\i = .int .i64 k/\x = .int .u32 (shN k X:Nat)) (fun _ i=>8-(intOf i).toNat)
 case atStart=>exact⟨0,by omega,rfl,rfl⟩
 case round=>
  obtain⟨k,o,rfl,rfl⟩:=hrel;have t:=tH k X a;have p:(k:Int)<=8:=by omega
  clear o;have l:=af (vD k X);clear j a;by_cases q:(k:Int)<8
  .
   generalize m:shN k X=x at *
   clear m;have h2:=AE x t;by_cases d:x%2=1
   .
    have g:(x:Int)%2=1:=by omega
    have H:=af d;clear d;go_wp2
    go_round
    case rel=>exact⟨k+1,by omega,by go_num,by rw[ae l,KP x (ae H)]⟩
    case measure=>simp[intOf];omega
   .
    have g:(x:Int)%2=0:=by omega
    have H:=af d;clear d;go_wp2
    go_round
    case rel=>exact⟨k+1,by omega,by go_num,by rw[ae l,EA x (ae H)];rfl⟩
    case measure=>simp[intOf];omega
  . go_wp2;go_ret;exact⟨aP (by rw[show k=8 by omega]),rfl⟩
theorem vJ(s:ByteArray)(k:Nat)(h:k<s.size):s.data.toList.take (k+1)=s.data.toList.take k++[s[k]]:=by
 rw[a1r (by simpa using h)];rfl
theorem uS(c:Nat)(l:List UInt8)(b:UInt8):fold c (l++[b])=shN 8 (fold c l ^^^ b.toNat):=by
 rw[yt];rfl
theorem Cb(c:Int)(s:ByteArray)(w:World)(m:0<=c)(q:c<4294967296)(p:s.size<=maxLen) :
  Calls prog 114 #[.int .u32 c,.string s] w fun e w'=>e = .returned (.int .u32 (aH c.toNat s.data.toList:Nat))/\w'=w:=by
 obtain⟨C,rfl⟩:=a0r m;rw[a0l];unfold maxLen at p;have g:bits .xor .u32 (C:Int) 4294967295=((C ^^^ full:Nat):Int):=a2B C 4294967295 (by omega) (by omega);have a:C ^^^ full<4294967296:=a1O (n:=32) (by omega) (by decide);have l:Hid (aH C s.data.toList=fold (C ^^^ full) s.data.toList ^^^ full):=rfl;generalize C ^^^ full=X at *
 generalize b:aH C s.data.toList=F at *
 clear b;go_enter func114,ntmps114;go_wp2
 go_loop [5,6] (fun c i=>∃k:Nat,k<=s.size/\i = .int .i64 k/\c = .int .u32 (fold X (s.data.toList.take k):Nat)) (fun _ i=>s.size-(intOf i).toNat)
 case atStart=>exact⟨0,a0g _,rfl,rfl⟩
 case round=>
  obtain⟨k,r,rfl,rfl⟩:=hrel;have o:=wI X (s.data.toList.take k) a;by_cases d:k<s.size
  .
   have f:Hid (fold X (s.data.toList.take (k+1))=shN 8 (fold X (s.data.toList.take k) ^^^ s[k].toNat)):=by
    rw[vJ s k d,uS];exact rfl
   have hb:(s[k].toNat:Int)<256:=by have:=wn s[k];omega
   generalize fold X (s.data.toList.take k)=x at *
   clear g a;go_wp2_with (go_at_call 144;refine(Cc _ _ _ (by omega) (by omega) (by omega) (by omega)).mono ?_;rintro e w' ⟨rfl,rfl⟩)
   go_round
   case rel=>exact⟨k+1,by omega,by go_num,by rw[ae f]⟩
   case measure=>simp[intOf];omega
  .
   have t:bits .xor .u32 ((fold X (s.data.toList.take k):Nat):Int) 4294967295=((fold X (s.data.toList.take k) ^^^ full:Nat):Int):=a2B _ 4294967295 o (by omega);have j:Hid (fold X (s.data.toList.take k) ^^^ full=F):=by
    have h:=ae l;rw[h,a0A (by simp;omega)];exact rfl
   generalize fold X (s.data.toList.take k) ^^^ full=v at *
   generalize fold X (s.data.toList.take k)=x at *
   clear g a;go_wp2;go_ret;exact⟨aP (by rw[ae j]),rfl⟩
theorem qM(s:ByteArray)(w:World)(a:s.size<=maxLen) :
  Calls prog 82 #[.string s] w fun e w'=>e = .returned (.int .i64 (aH 0 s.data.toList:Nat))/\w'=w:=by
 have hb:aH 0 s.data.toList<4294967296:=iJ _ _ (by omega);go_enter func82,ntmps82;go_wp2_with (go_at_call 114;refine(Cb _ _ _ (by omega) (by omega) a).mono ?_;rintro e w' ⟨rfl,rfl⟩);go_ret;exact⟨rfl,rfl⟩
def cmI(c:Int)(l:List UInt8):Int:=if inB c 0 4294967295=true then(aH c.toNat l:Nat)else -1
theorem DL{c:Int}{l:List UInt8}(h:inB c 0 4294967295=true):cmI c l=(aH c.toNat l:Nat):=a0e h
theorem Od{c:Int}{l:List UInt8}(h:inB c 0 4294967295=false):cmI c l = -1:=a0d (by simp[h])
theorem aO{a b:ByteArray}(h:a.data.toList=b.data.toList):a=b:=ByteArray.ext (Array.toList_inj.1 h)
end Go.Proofs.YtlpmnnjlmjffpaaGreatDoor
