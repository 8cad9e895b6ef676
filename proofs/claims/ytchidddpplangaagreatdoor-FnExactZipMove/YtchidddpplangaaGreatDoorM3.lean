/- Of what the proof is made: 7 texts, one behind the other. -/
import Derived.Test.YtchidddpplangaaGreatDoorRows
import Derived.WalkKit
import Derived.WalkSpells
import Derived.Below
import Derived.Laws.BitsAllLaws
import Derived.Test.YtchidddpplangaaGreatDoorM2
import Derived.Test.YtchidddpplangaaGreatDoorM1
set_option linter.unusedSimpArgs false
set_option linter.unusedVariables false
set_option maxHeartbeats 400000
namespace Go.Proofs.YtchidddpplangaaGreatDoor
open Go.Proofs.Tryz
open Go.RowKit
set_option linter.defProp false
abbrev Ds(f:Nat)(a:Array Value)(w:World)(v:Value):Prop:=Calls prog f a w fun e w'=>e = .returned v/\Below w.heap.size w w'
def a0c := @Below.refl
def a0C := @underlying137
def a0O := @Below.heap_setCell
def a0Q := @underlying103
def a1e := @func224
def a1f := @ntmps224
def a1i := @Below.heap_alloc
def a1p := @underlying182
def a1A := @func253
def a1B := @ntmps253
def a1P := @func244
def a1Q := @ntmps244
def a1U := @underlying3
def a2e := @underlying199
def a2q := @results28
def a2y := @func70
def a2z := @ntmps70
def a2E := @underlying5
def a2F := @underlying9
def a2J := @underlying36
def a2O := @func144
def a2P := @ntmps144
def a2R := @func28
def a2S := @ntmps28
def a2W := @func86
def a2X := @ntmps86
def a23 := @ownsRow_setCell_below
def a27 := @underlying268
def a3g := @underlying204
def a3i := @func47
def a3j := @ntmps47
def a3o := @func175
def a3p := @ntmps175
def a3q := @func152
def a3r := @ntmps152
def a3s := @func112
def a3t := @ntmps112
def a3v := @ntmps49
def a3y := @func158
def a3z := @ntmps158
def a3L := @underlying282
def a3U := @func100
def a3V := @ntmps100
def a3X := @ntmps27
theorem ae{p:Prop}(h:p):Hid p:=h
theorem ab{p:Prop}(h:Hid p):p:=h
theorem aH{k:IntKind}{a b:Int}(h:a=b):Ending.returned (.int k a) = .returned (.int k b):=by rw[h]
theorem ak{a b:Bool}(h:a=b):Ending.returned (.bool a) = .returned (.bool b):=by rw[h]
def inB(n lo hi:Int):Bool:=decide (lo<=n)&&decide (n<=hi)
theorem aB{n lo a:Int} : inB n lo a=true<->lo<=n/\n<=a:=by simp[inB]
theorem dN{n lo a:Int} : inB n lo a=false<->n<lo∨a<n:=by
 rw[←a2U,aB];omega
theorem aG(n lo a:Int)(w:World) :
  Calls prog 24 #[.int .i64 n,.int .i64 lo,.int .i64 a] w fun e w'=>e = .returned (.bool (inB n lo a))/\w'=w:=by
 by_cases h:lo<=n
 . go_enter func24,ntmps24;go_wp2;go_ret;exact⟨ak (by simp[inB,h]),rfl⟩
 . go_enter func24,ntmps24;go_wp2;go_ret;exact⟨ak (by simp[inB];omega),rfl⟩
def cG:List UInt8->Nat
 | []=>0
 | b :: l=>b.toNat+256*cG l
theorem iL(a b:List UInt8):cG (a++b)=cG a+2 ^ (8*a.length)*cG b:=by
 induction a with
 | nil=>simp[cG]
 | cons x a ih=>
  simp only[a18,cG,ih,a0D];have e:2 ^ (8*(a.length+1))=256*2 ^ (8*a.length):=by rw[a2t,a0W,a1s]
  rw[e,a2t,a2u];omega
theorem pN(l:List UInt8):cG l<2 ^ (8*l.length):=by
 induction l with
 | nil=>simp[cG]
 | cons x l ih=>
  simp only[cG,a0D];have e:2 ^ (8*(l.length+1))=256*2 ^ (8*l.length):=by rw[a2t,a0W,a1s]
  rw[e];have:=x.toNat_lt;omega
theorem BV(l:List UInt8)(j:Nat):cG l/2 ^ (8*j)%256=(l.getD j 0).toNat:=by
 induction l generalizing j with
 | nil=>simp[cG]
 | cons x l ih=>
  have a:=x.toNat_lt;cases j with
  | zero=>
   simp only[cG,Nat.mul_zero,Nat.pow_zero,Nat.div_one,List.getD_cons_zero];omega
  | succ j=>
   simp only[cG,a2v];rw[←ih j,show 8*(j+1)=8+8*j by omega,a0W,←a2i]
   congr 2
   show(x.toNat+256*cG l)/256=cG l;omega
theorem NN(l:List UInt8)(p:Nat):(l.getD (p/8) 0).toNat/2 ^ (p%8)%2=cG l/2 ^ p%2:=by
 rw[←BV];have e8:256=2 ^ (p%8)*2 ^ (8-p%8):=by
  rw[←a0W,show p%8+(8-p%8)=8 by omega]
 have e2:2∣2 ^ (8-p%8):=by
  rw[show 8-p%8=(7-p%8)+1 by omega,a16];exact Nat.dvd_mul_left _ _
 rw[e8,Nat.mod_mul_right_div_self,Nat.mod_mod_of_dvd _ e2,a2i,←a0W,show 8*(p/8)+p%8=p by omega]
theorem I2(l:List UInt8)(p:Nat)(h:8*l.length<=p):cG l/2 ^ p%2=0:=by
 rw[a2r (a0m (pN l) (a0N (by omega) h))]
def bY:List Nat:=[16,17,18,0,8,7,9,6,10,5,11,4,12,3,13,2,14,1,15]
theorem wD(n:Int)(w:World) :
  Calls prog 149 #[.int .i64 n] w fun e w'=>e = .returned (.bool (inB n 0 4294967295))/\w'=w:=by
 by_cases h:0<=n
 . go_enter func149,ntmps149;go_wp2;go_ret;exact⟨ak (by simp[inB,h]),rfl⟩
 . go_enter func149,ntmps149;go_wp2;go_ret;exact⟨ak (by simp[inB];omega),rfl⟩
open Corb
theorem Nh(x:Nat)(h:x<4294967296):bits .and .u32 (x:Int) 1=(x:Int)%2:=by
 have:=u32_and_nat x 1 h (by omega);rw[show((1:Nat):Int)=1 from rfl]at this;rw[this,nat_mask1];omega
theorem BR(x:Nat)(h:x<4294967296):bits .xor .u32 ((x:Int)/2) 3988292384=((x/2 ^^^ 3988292384:Nat):Int):=by
 have:=a2w (x/2) 3988292384 (by omega) (by omega);rw[show((x/2:Nat):Int)=(x:Int)/2 by omega]at this;exact this
theorem Ld(x:Nat)(h:x%2=1):sh x=x/2 ^^^ 3988292384:=a0e h
theorem Fo(x:Nat)(h:¬ x%2=1):sh x=x/2:=a0d h
theorem xo(r n:Int)(w:World)(d:0<=r)(o:r<4294967296)(b:0<=n)(l:n<=1000000) :
  Calls prog 196 #[.int .u32 r,.int .i64 n] w fun e w'=>e = .returned (.int .u32 (shN n.toNat r.toNat:Nat))/\w'=w:=by
 obtain⟨R,rfl⟩:=a0t d;obtain⟨m,rfl⟩:=a0t b;rw[a0p,a0p];go_enter func196,ntmps196;go_wp2
 go_loop [0,6] (fun x i=>∃k:Nat,k<=m/\i = .int .i64 k/\x = .int .u32 (shN k R:Nat)) (fun _ i=>m-(intOf i).toNat)
 case atStart=>exact⟨0,a0g _,rfl,rfl⟩
 case round=>
  obtain⟨k,q,rfl,rfl⟩:=hrel;have g:=uL k R (by omega);have f:=ae (wB k R);by_cases j:k<m
  .
   generalize h:shN k R=x at *
   clear h;have p:=Nh x g;have h2:=BR x g;by_cases a:x%2=1
   .
    have c:(x:Int)%2=1:=by omega
    have H:=ae a;clear a;go_wp2
    go_round
    case rel=>exact⟨k+1,by omega,by go_num,by rw[ab f,Ld x (ab H)]⟩
    case measure=>simp[intOf];omega
   .
    have c:(x:Int)%2=0:=by omega
    have H:=ae a;clear a;go_wp2
    go_round
    case rel=>exact⟨k+1,by omega,by go_num,by rw[ab f,Fo x (ab H)];rfl⟩
    case measure=>simp[intOf];omega
  . go_wp2;go_ret;exact⟨aH (by rw[show k=m by omega]),rfl⟩
theorem pL(x:Nat)(b:Nat)(h:x<4294967296)(hb:b<256):bits .xor .u32 (x:Int) (b:Int)=((x ^^^ b:Nat):Int):=
 a2w x b h (by omega)
theorem Dq(c b:Int)(w:World)(h:0<=c)(s:c<4294967296)(f:0<=b)(r:b<256) :
  Calls prog 91 #[.int .u32 c,.int .u8 b] w fun e w'=>e = .returned (.int .u32 (shN 8 (c.toNat ^^^ b.toNat):Nat))/\w'=w:=by
 obtain⟨R,rfl⟩:=a0t h;obtain⟨B,rfl⟩:=a0t f;rw[a0p,a0p];have j:=pL R B (by omega) (by omega);have a:R ^^^ B<4294967296:=a1F (n:=32) (by omega) (by omega);generalize R ^^^ B=X at *
 go_enter func91,ntmps91;go_wp2
 go_loop [0,5] (fun x i=>∃k:Nat,k<=8/\i = .int .i64 k/\x = .int .u32 (shN k X:Nat)) (fun _ i=>8-(intOf i).toNat)
 case atStart=>exact⟨0,by omega,rfl,rfl⟩
 case round=>
  obtain⟨k,o,rfl,rfl⟩:=hrel;have t:=uL k X a;have p:(k:Int)<=8:=by omega
  clear o;have l:=ae (wB k X);clear j a;by_cases q:(k:Int)<8
  .
   generalize m:shN k X=x at *
   clear m;have h2:=BR x t;by_cases d:x%2=1
   .
    have g:(x:Int)%2=1:=by omega
    have H:=ae d;clear d;go_wp2
    go_round
    case rel=>exact⟨k+1,by omega,by go_num,by rw[ab l,Ld x (ab H)]⟩
    case measure=>simp[intOf];omega
   .
    have g:(x:Int)%2=0:=by omega
    have H:=ae d;clear d;go_wp2
    go_round
    case rel=>exact⟨k+1,by omega,by go_num,by rw[ab l,Fo x (ab H)];rfl⟩
    case measure=>simp[intOf];omega
  . go_wp2;go_ret;exact⟨aH (by rw[show k=8 by omega]),rfl⟩
theorem wG(s:ByteArray)(k:Nat)(h:k<s.size):s.data.toList.take (k+1)=s.data.toList.take k++[s[k]]:=by
 rw[a1b (by simpa using h)];rfl
theorem vV(c:Nat)(l:List UInt8)(b:UInt8):fold c (l++[b])=shN 8 (fold c l ^^^ b.toNat):=by
 rw[zE];rfl
theorem Dp(c:Int)(s:ByteArray)(w:World)(m:0<=c)(q:c<4294967296)(p:s.size<=maxLen) :
  Calls prog 69 #[.int .u32 c,.string s] w fun e w'=>e = .returned (.int .u32 (aE c.toNat s.data.toList:Nat))/\w'=w:=by
 obtain⟨C,rfl⟩:=a0t m;rw[a0p];unfold maxLen at p;have g:bits .xor .u32 (C:Int) 4294967295=((C ^^^ full:Nat):Int):=a2w C 4294967295 (by omega) (by omega);have a:C ^^^ full<4294967296:=a1F (n:=32) (by omega) (by decide);have l:Hid (aE C s.data.toList=fold (C ^^^ full) s.data.toList ^^^ full):=rfl;generalize C ^^^ full=X at *
 generalize b:aE C s.data.toList=F at *
 clear b;go_enter func69,ntmps69;go_wp2
 go_loop [5,6] (fun c i=>∃k:Nat,k<=s.size/\i = .int .i64 k/\c = .int .u32 (fold X (s.data.toList.take k):Nat)) (fun _ i=>s.size-(intOf i).toNat)
 case atStart=>exact⟨0,a0g _,rfl,rfl⟩
 case round=>
  obtain⟨k,r,rfl,rfl⟩:=hrel;have o:=xH X (s.data.toList.take k) a;by_cases d:k<s.size
  .
   have f:Hid (fold X (s.data.toList.take (k+1))=shN 8 (fold X (s.data.toList.take k) ^^^ s[k].toNat)):=by
    rw[wG s k d,vV];exact rfl
   have hb:(s[k].toNat:Int)<256:=by have:=xg s[k];omega
   generalize fold X (s.data.toList.take k)=x at *
   clear g a;go_wp2_with (go_at_call 91;refine(Dq _ _ _ (by omega) (by omega) (by omega) (by omega)).mono ?_;rintro e w' ⟨rfl,rfl⟩)
   go_round
   case rel=>exact⟨k+1,by omega,by go_num,by rw[ab f]⟩
   case measure=>simp[intOf];omega
  .
   have t:bits .xor .u32 ((fold X (s.data.toList.take k):Nat):Int) 4294967295=((fold X (s.data.toList.take k) ^^^ full:Nat):Int):=a2w _ 4294967295 o (by omega);have j:Hid (fold X (s.data.toList.take k) ^^^ full=F):=by
    have h:=ab l;rw[h,a0u (by simp;omega)];exact rfl
   generalize fold X (s.data.toList.take k) ^^^ full=v at *
   generalize fold X (s.data.toList.take k)=x at *
   clear g a;go_wp2;go_ret;exact⟨aH (by rw[ab j]),rfl⟩
theorem rH(s:ByteArray)(w:World)(a:s.size<=maxLen) :
  Calls prog 48 #[.string s] w fun e w'=>e = .returned (.int .i64 (aE 0 s.data.toList:Nat))/\w'=w:=by
 have hb:aE 0 s.data.toList<4294967296:=jp _ _ (by omega);go_enter func48,ntmps48;go_wp2_with (go_at_call 69;refine(Dp _ _ _ (by omega) (by omega) a).mono ?_;rintro e w' ⟨rfl,rfl⟩);go_ret;exact⟨rfl,rfl⟩
def cmI(c:Int)(l:List UInt8):Int:=if inB c 0 4294967295=true then(aE c.toNat l:Nat)else -1
theorem EA{c:Int}{l:List UInt8}(h:inB c 0 4294967295=true):cmI c l=(aE c.toNat l:Nat):=a0e h
theorem NQ{c:Int}{l:List UInt8}(h:inB c 0 4294967295=false):cmI c l = -1:=a0d (by simp[h])
theorem kV{a b:ByteArray}(h:a.data.toList=b.data.toList):a=b:=ByteArray.ext (Array.toList_inj.1 h)
end Go.Proofs.YtchidddpplangaaGreatDoor
