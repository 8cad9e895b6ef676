/- Of what the proof is made: 7 texts, one behind the other. -/
import Derived.Test.YtchidddpplangaaGreatDoorRows
import Derived.WalkKit
import Derived.WalkSpells
import Derived.Below
import Derived.Laws.BitsAllLaws
import Derived.Test.YtchidddpplangaaGreatDoorM2
import Derived.Test.YtchidddpplangaaGreatDoorM1
set_option linter.unusedSimpArgs false
set_option linter.unusedVariables false
set_option maxHeartbeats 400000
namespace Go.Proofs.YtchidddpplangaaGreatDoor
open Go.Proofs.Tryz
open Go.RowKit
set_option linter.defProp false
abbrev Ds(f:Nat)(a:Array Value)(w:World)(v:Value):Prop:=Calls prog f a w fun e w'=>e = .returned v/\Below w.heap.size w w'
def a0c := @Below.refl
def a0D := @underlying137
def a0P := @Below.heap_setCell
def a0Q := @underlying103
def a1c := @func224
def a1d := @ntmps224
def a1f := @underlying3
def a1i := @Below.heap_alloc
def a1p := @underlying182
def a1B := @func253
def a1C := @ntmps253
def a1J := @underlying9
def a1P := @func244
def a1Q := @ntmps244
def a14 := @underlying36
def a2c := @underlying199
def a2h := @DataW.trod_int
def a2u := @results28
def a2C := @func70
def a2D := @ntmps70
def a2H := @underlying5
def a2O := @func144
def a2P := @ntmps144
def a2R := @func28
def a2S := @ntmps28
def a2X := @func86
def a2Y := @ntmps86
def a23 := @ownsRow_setCell_below
def a28 := @underlying268
def a3g := @underlying204
def a3i := @func47
def a3j := @ntmps47
def a3n := @func175
def a3o := @ntmps175
def a3p := @func152
def a3q := @ntmps152
def a3r := @func112
def a3s := @ntmps112
def a3u := @ntmps49
def a3x := @func158
def a3y := @ntmps158
def a3G := @underlying282
def a3R := @func100
def a3S := @ntmps100
def a3U := @ntmps27
theorem ae{p:Prop}(h:p):Hid p:=h
theorem ab{p:Prop}(h:Hid p):p:=h
theorem aH{k:IntKind}{a b:Int}(h:a=b):Ending.returned (.int k a) = .returned (.int k b):=by rw[h]
theorem ak{a b:Bool}(h:a=b):Ending.returned (.bool a) = .returned (.bool b):=by rw[h]
def inB(n lo hi:Int):Bool:=decide (lo<=n)&&decide (n<=hi)
theorem az{n lo a:Int} : inB n lo a=true<->lo<=n/\n<=a:=by simp[inB]
theorem dJ{n lo a:Int} : inB n lo a=false<->n<lo∨a<n:=by
 rw[←a2U,az];omega
theorem aF(n lo a:Int)(w:World) :
  Calls prog 24 #[.int .i64 n,.int .i64 lo,.int .i64 a] w fun e w'=>e = .returned (.bool (inB n lo a))/\w'=w:=by
 by_cases h:lo<=n
 . go_enter func24,ntmps24;go_wp2;go_ret;exact⟨ak (by simp[inB,h]),rfl⟩
 . go_enter func24,ntmps24;go_wp2;go_ret;exact⟨ak (by simp[inB];omega),rfl⟩
def cw:List UInt8->Nat
 | []=>0
 | b :: l=>b.toNat+256*cw l
theorem iy(a b:List UInt8):cw (a++b)=cw a+2 ^ (8*a.length)*cw b:=by
 induction a with
 | nil=>simp[cw]
 | cons x a ih=>
  simp only[a17,cw,ih,a0E];have e:2 ^ (8*(a.length+1))=256*2 ^ (8*a.length):=by rw[a2x,a0V,a1s]
  rw[e,a2x,a2y];omega
theorem px(l:List UInt8):cw l<2 ^ (8*l.length):=by
 induction l with
 | nil=>simp[cw]
 | cons x l ih=>
  simp only[cw,a0E];have e:2 ^ (8*(l.length+1))=256*2 ^ (8*l.length):=by rw[a2x,a0V,a1s]
  rw[e];have:=x.toNat_lt;omega
theorem Bl(l:List UInt8)(j:Nat):cw l/2 ^ (8*j)%256=(l.getD j 0).toNat:=by
 induction l generalizing j with
 | nil=>simp[cw]
 | cons x l ih=>
  have a:=x.toNat_lt;cases j with
  | zero=>
   simp only[cw,Nat.mul_zero,Nat.pow_zero,Nat.div_one,List.getD_cons_zero];omega
  | succ j=>
   simp only[cw,a2z];rw[←ih j,show 8*(j+1)=8+8*j by omega,a0V,←a2g]
   congr 2
   show(x.toNat+256*cw l)/256=cw l;omega
theorem Nc(l:List UInt8)(p:Nat):(l.getD (p/8) 0).toNat/2 ^ (p%8)%2=cw l/2 ^ p%2:=by
 rw[←Bl];have e8:256=2 ^ (p%8)*2 ^ (8-p%8):=by
  rw[←a0V,show p%8+(8-p%8)=8 by omega]
 have e2:2∣2 ^ (8-p%8):=by
  rw[show 8-p%8=(7-p%8)+1 by omega,a15];exact Nat.dvd_mul_left _ _
 rw[e8,Nat.mod_mul_right_div_self,Nat.mod_mod_of_dvd _ e2,a2g,←a0V,show 8*(p/8)+p%8=p by omega]
theorem It(l:List UInt8)(p:Nat)(h:8*l.length<=p):cw l/2 ^ p%2=0:=by
 rw[a2v (a0m (px l) (a0N (by omega) h))]
def bT:List Nat:=[16,17,18,0,8,7,9,6,10,5,11,4,12,3,13,2,14,1,15]
theorem wb(n:Int)(w:World) :
  Calls prog 149 #[.int .i64 n] w fun e w'=>e = .returned (.bool (inB n 0 4294967295))/\w'=w:=by
 by_cases h:0<=n
 . go_enter func149,ntmps149;go_wp2;go_ret;exact⟨ak (by simp[inB,h]),rfl⟩
 . go_enter func149,ntmps149;go_wp2;go_ret;exact⟨ak (by simp[inB];omega),rfl⟩
open Corb
theorem MD(x:Nat)(h:x<4294967296):bits .and .u32 (x:Int) 1=(x:Int)%2:=by
 have:=u32_and_nat x 1 h (by omega);rw[show((1:Nat):Int)=1 from rfl]at this;rw[this,nat_mask1];omega
theorem Bh(x:Nat)(h:x<4294967296):bits .xor .u32 ((x:Int)/2) 3988292384=((x/2 ^^^ 3988292384:Nat):Int):=by
 have:=a2A (x/2) 3988292384 (by omega) (by omega);rw[show((x/2:Nat):Int)=(x:Int)/2 by omega]at this;exact this
theorem Kw(x:Nat)(h:x%2=1):sh x=x/2 ^^^ 3988292384:=a0e h
theorem EE(x:Nat)(h:¬ x%2=1):sh x=x/2:=a0d h
theorem wM(r n:Int)(w:World)(d:0<=r)(o:r<4294967296)(b:0<=n)(l:n<=1000000) :
  Calls prog 196 #[.int .u32 r,.int .i64 n] w fun e w'=>e = .returned (.int .u32 (shN n.toNat r.toNat:Nat))/\w'=w:=by
 obtain⟨R,rfl⟩:=a0s d;obtain⟨m,rfl⟩:=a0s b;rw[a0t,a0t];go_enter func196,ntmps196;go_wp2
 go_loop [0,6] (fun x i=>∃k:Nat,k<=m/\i = .int .i64 k/\x = .int .u32 (shN k R:Nat)) (fun _ i=>m-(intOf i).toNat)
 case atStart=>exact⟨0,a0g _,rfl,rfl⟩
 case round=>
  obtain⟨k,q,rfl,rfl⟩:=hrel;have g:=ux k R (by omega);have f:=ae (vZ k R);by_cases j:k<m
  .
   generalize h:shN k R=x at *
   clear h;have p:=MD x g;have h2:=Bh x g;by_cases a:x%2=1
   .
    have c:(x:Int)%2=1:=by omega
    have H:=ae a;clear a;go_wp2
    go_round
    case rel=>exact⟨k+1,by omega,by go_num,by rw[ab f,Kw x (ab H)]⟩
    case measure=>simp[intOf];omega
   .
    have c:(x:Int)%2=0:=by omega
    have H:=ae a;clear a;go_wp2
    go_round
    case rel=>exact⟨k+1,by omega,by go_num,by rw[ab f,EE x (ab H)];rfl⟩
    case measure=>simp[intOf];omega
  . go_wp2;go_ret;exact⟨aH (by rw[show k=m by omega]),rfl⟩
theorem pu(x:Nat)(b:Nat)(h:x<4294967296)(hb:b<256):bits .xor .u32 (x:Int) (b:Int)=((x ^^^ b:Nat):Int):=
 a2A x b h (by omega)
theorem Co(c b:Int)(w:World)(h:0<=c)(s:c<4294967296)(f:0<=b)(r:b<256) :
  Calls prog 91 #[.int .u32 c,.int .u8 b] w fun e w'=>e = .returned (.int .u32 (shN 8 (c.toNat ^^^ b.toNat):Nat))/\w'=w:=by
 obtain⟨R,rfl⟩:=a0s h;obtain⟨B,rfl⟩:=a0s f;rw[a0t,a0t];have j:=pu R B (by omega) (by omega);have a:R ^^^ B<4294967296:=a1G (n:=32) (by omega) (by omega);generalize R ^^^ B=X at *
 go_enter func91,ntmps91;go_wp2
 go_loop [0,5] (fun x i=>∃k:Nat,k<=8/\i = .int .i64 k/\x = .int .u32 (shN k X:Nat)) (fun _ i=>8-(intOf i).toNat)
 case atStart=>exact⟨0,by omega,rfl,rfl⟩
 case round=>
  obtain⟨k,o,rfl,rfl⟩:=hrel;have t:=ux k X a;have p:(k:Int)<=8:=by omega
  clear o;have l:=ae (vZ k X);clear j a;by_cases q:(k:Int)<8
  .
   generalize m:shN k X=x at *
   clear m;have h2:=Bh x t;by_cases d:x%2=1
   .
    have g:(x:Int)%2=1:=by omega
    have H:=ae d;clear d;go_wp2
    go_round
    case rel=>exact⟨k+1,by omega,by go_num,by rw[ab l,Kw x (ab H)]⟩
    case measure=>simp[intOf];omega
   .
    have g:(x:Int)%2=0:=by omega
    have H:=ae d;clear d;go_wp2
    go_round
    case rel=>exact⟨k+1,by omega,by go_num,by rw[ab l,EE x (ab H)];rfl⟩
    case measure=>simp[intOf];omega
  . go_wp2;go_ret;exact⟨aH (by rw[show k=8 by omega]),rfl⟩
theorem wh(s:ByteArray)(k:Nat)(h:k<s.size):s.data.toList.take (k+1)=s.data.toList.take k++[s[k]]:=by
 rw[a1e (by simpa using h)];rfl
theorem vE(c:Nat)(l:List UInt8)(b:UInt8):fold c (l++[b])=shN 8 (fold c l ^^^ b.toNat):=by
 rw[y8];rfl
theorem Cn(c:Int)(s:ByteArray)(w:World)(m:0<=c)(q:c<4294967296)(p:s.size<=maxLen) :
  Calls prog 69 #[.int .u32 c,.string s] w fun e w'=>e = .returned (.int .u32 (aC c.toNat s.data.toList:Nat))/\w'=w:=by
 obtain⟨C,rfl⟩:=a0s m;rw[a0t];unfold maxLen at p;have g:bits .xor .u32 (C:Int) 4294967295=((C ^^^ full:Nat):Int):=a2A C 4294967295 (by omega) (by omega);have a:C ^^^ full<4294967296:=a1G (n:=32) (by omega) (by decide);have l:Hid (aC C s.data.toList=fold (C ^^^ full) s.data.toList ^^^ full):=rfl;generalize C ^^^ full=X at *
 generalize b:aC C s.data.toList=F at *
 clear b;go_enter func69,ntmps69;go_wp2
 go_loop [5,6] (fun c i=>∃k:Nat,k<=s.size/\i = .int .i64 k/\c = .int .u32 (fold X (s.data.toList.take k):Nat)) (fun _ i=>s.size-(intOf i).toNat)
 case atStart=>exact⟨0,a0g _,rfl,rfl⟩
 case round=>
  obtain⟨k,r,rfl,rfl⟩:=hrel;have o:=wW X (s.data.toList.take k) a;by_cases d:k<s.size
  .
   have f:Hid (fold X (s.data.toList.take (k+1))=shN 8 (fold X (s.data.toList.take k) ^^^ s[k].toNat)):=by
    rw[wh s k d,vE];exact rfl
   have hb:(s[k].toNat:Int)<256:=by have:=wI s[k];omega
   generalize fold X (s.data.toList.take k)=x at *
   clear g a;go_wp2_with (go_at_call 91;refine(Co _ _ _ (by omega) (by omega) (by omega) (by omega)).mono ?_;rintro e w' ⟨rfl,rfl⟩)
   go_round
   case rel=>exact⟨k+1,by omega,by go_num,by rw[ab f]⟩
   case measure=>simp[intOf];omega
  .
   have t:bits .xor .u32 ((fold X (s.data.toList.take k):Nat):Int) 4294967295=((fold X (s.data.toList.take k) ^^^ full:Nat):Int):=a2A _ 4294967295 o (by omega);have j:Hid (fold X (s.data.toList.take k) ^^^ full=F):=by
    have h:=ab l;rw[h,a0x (by simp;omega)];exact rfl
   generalize fold X (s.data.toList.take k) ^^^ full=v at *
   generalize fold X (s.data.toList.take k)=x at *
   clear g a;go_wp2;go_ret;exact⟨aH (by rw[ab j]),rfl⟩
theorem rq(s:ByteArray)(w:World)(a:s.size<=maxLen) :
  Calls prog 48 #[.string s] w fun e w'=>e = .returned (.int .i64 (aC 0 s.data.toList:Nat))/\w'=w:=by
 have hb:aC 0 s.data.toList<4294967296:=jc _ _ (by omega);go_enter func48,ntmps48;go_wp2_with (go_at_call 69;refine(Cn _ _ _ (by omega) (by omega) a).mono ?_;rintro e w' ⟨rfl,rfl⟩);go_ret;exact⟨rfl,rfl⟩
def cmI(c:Int)(l:List UInt8):Int:=if inB c 0 4294967295=true then(aC c.toNat l:Nat)else -1
theorem D5{c:Int}{l:List UInt8}(h:inB c 0 4294967295=true):cmI c l=(aC c.toNat l:Nat):=a0e h
theorem Ni{c:Int}{l:List UInt8}(h:inB c 0 4294967295=false):cmI c l = -1:=a0d (by simp[h])
theorem kO{a b:ByteArray}(h:a.data.toList=b.data.toList):a=b:=ByteArray.ext (Array.toList_inj.1 h)
end Go.Proofs.YtchidddpplangaaGreatDoor
