/- Texts. -/
import Derived.Test.YtckocaibjciplaaGreatDoorRows
import Derived.WalkSpells
import Derived.Test.YtckocaibjciplaaGreatDoorM2
import Derived.Test.YtckocaibjciplaaGreatDoorM1
set_option linter.all false
set_option maxHeartbeats 400000
namespace Go.Proofs.YtckocaibjciplaaGreatDoor
open Go.Proofs.Tryz
open Go.RowKit
def cE:prog.follows .mixedOrders=true:=by kernel_rfl
def cC{w:World}{o:Obj}:Below w.heap.size w (w.alloc o):=(Below.refl _ _).alloc (Nat.le_refl _) _
abbrev Ds(f:Nat)(a:Array Value)(w:World)(v:Value):Prop:=Calls prog f a w fun e w'=>e = .returned v/\Below w.heap.size w w'
def a0c := @Below.refl
def a0F := @underlying122
def a0M := @Below.heap_setCell
def a0X := @underlying22
def a1i := @Below.heap_alloc
def a1m := @underlying27
def a1x := @underlying156
def a1J := @func275
def a1K := @ntmps275
def a15 := @underlying5
def a16 := @underlying9
def a2f := @underlying3
def a2k := @underlying187
def a2B := @results50
def a2I := @func119
def a2J := @ntmps119
def a2W := @func140
def a2X := @ntmps140
def a2Y := @func50
def a2Z := @ntmps50
def a26 := @func107
def a27 := @ntmps107
def a28 := @results72
def a29 := @run_convert_bytes_back
def a3e := @underlying249
def a3n := @underlying192
def a3p := @func84
def a3q := @ntmps84
def a3v := @func156
def a3w := @ntmps156
def a3x := @func177
def a3y := @ntmps177
def a3z := @func145
def a3A := @ntmps145
def a3C := @ntmps87
def a3G := @func212
def a3H := @ntmps212
def a3P := @ownsRow_setCell_below
def a3Q := @underlying319
def a3Y := @results38
def a32 := @ntmps95
def a34 := @ntmps49
def af{p:Prop}(h:p):Hid p:=h
def ae{p:Prop}(h:Hid p):p:=h
def aK{k:IntKind}{a b:Int}(h:a=b):Ending.returned (.int k a) = .returned (.int k b):=by rw[h]
def am{a b:Bool}(h:a=b):Ending.returned (.bool a) = .returned (.bool b):=by rw[h]
def inB(n lo hi:Int):Bool:=decide (lo<=n)&&decide (n<=hi)
def aI{n lo a:Int} : inB n lo a=true<->lo<=n/\n<=a:=by simp[inB]
def eW{n lo a:Int} : inB n lo a=false<->n<lo∨a<n:=by
 rw[←a22,aI];omega
def aT(n lo a:Int)(w:World) :
  Calls prog 46 #[n,lo,a] w fun e w'=>e = .returned (.bool (inB n lo a))/\w'=w:=by
 by_cases h:lo<=n
 . go_enter func46,ntmps46;go_wp2;go_ret;exact⟨am (by simp[inB,h]),rfl⟩
 . go_enter func46,ntmps46;go_wp2;go_ret;exact⟨am (by simp[inB];omega),rfl⟩
def cR:List UInt8->Nat
 | []=>0
 | b :: l=>b.toNat+256*cR l
def jq(a b:List UInt8):cR (a++b)=cR a+2 ^ (8*a.length)*cR b:=by
 induction a with
 | nil=>simp[cR]
 | cons x a ih=>
  simp only[a1o,cR,ih,a0C];have e:2 ^ (8*(a.length+1))=256*2 ^ (8*a.length):=by rw[a2q,a0T,a1h]
  rw[e,a2q,a1O];omega
def rq(l:List UInt8):cR l<2 ^ (8*l.length):=by
 induction l with
 | nil=>simp[cR]
 | cons x l ih=>
  simp only[cR,a0C];have e:2 ^ (8*(l.length+1))=256*2 ^ (8*l.length):=by rw[a2q,a0T,a1h]
  rw[e];have:=x.toNat_lt;omega
def ER(l:List UInt8)(j:Nat):cR l/2 ^ (8*j)%256=(l.getD j 0).toNat:=by
 induction l generalizing j with
 | nil=>simp[cR]
 | cons x l ih=>
  have a:=x.toNat_lt;cases j with
  | zero=>
   simp only[cR,Nat.mul_zero,Nat.pow_zero,Nat.div_one,List.getD_cons_zero];omega
  | succ j=>
   simp only[cR,a2F];rw[←ih j,show 8*(j+1)=8+8*j by omega,a0T,←a1Y]
   congr 2
   show(x.toNat+256*cR l)/256=cR l;omega
def Si(l:List UInt8)(p:Nat):(l.getD (p/8) 0).toNat/2 ^ (p%8)%2=cR l/2 ^ p%2:=by
 rw[←ER];have e8:256=2 ^ (p%8)*2 ^ (8-p%8):=by
  rw[←a0T,show p%8+(8-p%8)=8 by omega]
 have e2:2∣2 ^ (8-p%8):=by
  rw[show 8-p%8=(7-p%8)+1 by omega,a1u];exact Nat.dvd_mul_left _ _
 rw[e8,a3r,Nat.mod_mod_of_dvd _ e2,a1Y,←a0T,show 8*(p/8)+p%8=p by omega]
def Mk(l:List UInt8)(p:Nat)(h:8*l.length<=p):cR l/2 ^ p%2=0:=by
 rw[a1Z (a0h (rq l) (a0P (by omega) h))]
def bC:List Nat:=[16,17,18,0,8,7,9,6,10,5,11,4,12,3,13,2,14,1,15]
def yW(n:Int)(w:World) :
  Calls prog 146 #[n] w fun e w'=>e = .returned (.bool (inB n 0 4294967295))/\w'=w:=by
 by_cases h:0<=n
 . go_enter func146,ntmps146;go_wp2;go_ret;exact⟨am (by simp[inB,h]),rfl⟩
 . go_enter func146,ntmps146;go_wp2;go_ret;exact⟨am (by simp[inB];omega),rfl⟩
open Corb
def Ru(x:Nat)(h:x<4294967296):bits .and .u32 (x:Int) 1=(x:Int)%2:=by
 have:=u32_and_nat x 1 h (by omega);rw[show((1:Nat):Int)=1 from rfl]at this;rw[this,nat_mask1];omega
def EO(x:Nat)(h:x<4294967296):bits .xor .u32 ((x:Int)/2) 3988292384=((x/2 ^^^ 3988292384:Nat):Int):=by
 have:=a2G (x/2) 3988292384 (by omega) (by omega);rw[show((x/2:Nat):Int)=(x:Int)/2 by omega]at this;exact this
def OV(x:Nat)(h:x%2=1):sh x=x/2 ^^^ 3988292384:=a0d h
def IP(x:Nat)(h:¬ x%2=1):sh x=x/2:=a0e h
def zF(r n:Int)(w:World)(d:0<=r)(o:r<4294967296)(b:0<=n)(l:n<=1000000) :
  Calls prog 178 #[.int .u32 r,n] w fun e w'=>e = .returned (.int .u32 (shN n.toNat r.toNat:Nat))/\w'=w:=by
 obtain⟨R,rfl⟩:=a0p d;obtain⟨m,rfl⟩:=a0p b;rw[a0o,a0o];go_enter func178,ntmps178;go_wp2
 go_loop [0,6] (fun x i=>∃k:Nat,k<=m/\i = .int .i64 k/\x = .int .u32 (shN k R:Nat)) (fun _ i=>m-(intOf i).toNat)
 case atStart=>exact⟨0,a0g _,rfl,rfl⟩
 case round=>
  obtain⟨k,q,rfl,rfl⟩:=hrel;have g:=wP k R (by omega);have f:=af (yS k R);by_cases j:k<m
  .
   generalize h:shN k R=x at *;clear h;have p:=Ru x g;have h2:=EO x g;by_cases a:x%2=1
   .
    have c:(x:Int)%2=1:=(by omega);have H:=af a;clear a;go_wp2
    go_round
    case rel=>exact⟨k+1,by omega,by go_num,by rw[ae f,OV x H]⟩
    case measure=>simp[intOf];omega
   .
    have c:(x:Int)%2=0:=(by omega);have H:=af a;clear a;go_wp2
    go_round
    case rel=>exact⟨k+1,by omega,by go_num,by rw[ae f,IP x H];rfl⟩
    case measure=>simp[intOf];omega
  . go_wp2;go_ret;exact⟨aK (by rw[show k=m by omega]),rfl⟩
def rn(x:Nat)(b:Nat)(h:x<4294967296)(hb:b<256):bits .xor .u32 (x:Int) (b:Int)=((x ^^^ b:Nat):Int):=
 a2G x b h (by omega)
def F9(c b:Int)(w:World)(h:0<=c)(s:c<4294967296)(f:0<=b)(r:b<256) :
  Calls prog 152 #[.int .u32 c,.int .u8 b] w fun e w'=>e = .returned (.int .u32 (shN 8 (c.toNat ^^^ b.toNat):Nat))/\w'=w:=by
 obtain⟨R,rfl⟩:=a0p h;obtain⟨B,rfl⟩:=a0p f;rw[a0o,a0o];have j:=rn R B (by omega) (by omega);have a:R ^^^ B<4294967296:=a1N (n:=32) (by omega) (by omega);generalize R ^^^ B=X at *;go_enter func152,ntmps152;go_wp2
 go_loop [0,5] (fun x i=>∃k:Nat,k<=8/\i = .int .i64 k/\x = .int .u32 (shN k X:Nat)) (fun _ i=>8-(intOf i).toNat)
 case atStart=>exact⟨0,by omega,rfl,rfl⟩
 case round=>
  obtain⟨k,o,rfl,rfl⟩:=hrel;have t:=wP k X a;have p:(k:Int)<=8:=by omega
  clear o;have l:=af (yS k X);clear j a;by_cases q:(k:Int)<8
  .
   generalize m:shN k X=x at *;clear m;have h2:=EO x t;by_cases d:x%2=1
   .
    have g:(x:Int)%2=1:=(by omega);have H:=af d;clear d;go_wp2
    go_round
    case rel=>exact⟨k+1,by omega,by go_num,by rw[ae l,OV x H]⟩
    case measure=>simp[intOf];omega
   .
    have g:(x:Int)%2=0:=(by omega);have H:=af d;clear d;go_wp2
    go_round
    case rel=>exact⟨k+1,by omega,by go_num,by rw[ae l,IP x H];rfl⟩
    case measure=>simp[intOf];omega
  . go_wp2;go_ret;exact⟨aK (by rw[show k=8 by omega]),rfl⟩
def y6(s:ByteArray)(k:Nat)(h:k<s.size):s.data.toList.take (k+1)=s.data.toList.take k++[s[k]]:=by
 rw[a1f (by simpa using h)];rfl
def ym(c:Nat)(l:List UInt8)(b:UInt8):fold c (l++[b])=shN 8 (fold c l ^^^ b.toNat):=by
 rw[Cl];rfl
def F8(c:Int)(s:ByteArray)(w:World)(m:0<=c)(q:c<4294967296)(p:s.size<=maxLen) :
  Calls prog 117 #[.int .u32 c,s] w fun e w'=>e = .returned (.int .u32 (aC c.toNat s.data.toList:Nat))/\w'=w:=by
 obtain⟨C,rfl⟩:=a0p m;rw[a0o];unfold maxLen at p;have g:bits .xor .u32 (C:Int) 4294967295=((C ^^^ full:Nat):Int):=a2G C 4294967295 (by omega) (by omega);have a:C ^^^ full<4294967296:=a1N (n:=32) (by omega) (by decide);have l:Hid (aC C s.data.toList=fold (C ^^^ full) s.data.toList ^^^ full):=rfl;generalize C ^^^ full=X,b:aC C s.data.toList=F at *;clear b;go_enter func117,ntmps117;go_wp2
 go_loop [5,6] (fun c i=>∃k:Nat,k<=s.size/\i = .int .i64 k/\c = .int .u32 (fold X (s.data.toList.take k):Nat)) (fun _ i=>s.size-(intOf i).toNat)
 case atStart=>exact⟨0,a0g _,rfl,rfl⟩
 case round=>
  obtain⟨k,r,rfl,rfl⟩:=hrel;have o:=zX X (s.data.toList.take k) a;by_cases d:k<s.size
  .
   have f:Hid (fold X (s.data.toList.take (k+1))=shN 8 (fold X (s.data.toList.take k) ^^^ s[k].toNat)):=by
    rw[y6 s k d,ym];exact rfl
   have hb:(s[k].toNat:Int)<256:=by have:=zB s[k];omega
   generalize fold X (s.data.toList.take k)=x at *;clear g a;go_wp2_with (go_at_call 152;apply(F9 _ _ _ (by omega) (by omega) (by omega) (by omega)).mono;rintro e w'⟨rfl,rfl⟩)
   go_round
   case rel=>exact⟨k+1,by omega,by go_num,by rw[ae f]⟩
   case measure=>simp[intOf];omega
  .
   have t:bits .xor .u32 ((fold X (s.data.toList.take k):Nat):Int) 4294967295=((fold X (s.data.toList.take k) ^^^ full:Nat):Int):=a2G _ 4294967295 o (by omega);have j:Hid (fold X (s.data.toList.take k) ^^^ full=F):=by
    have h:=ae l;rw[h,a0u (by simp;omega)];exact rfl
   generalize fold X (s.data.toList.take k) ^^^ full=v,fold X (s.data.toList.take k)=x at *;clear g a;go_wp2;go_ret;exact⟨aK (by rw[ae j]),rfl⟩
def tK(s:ByteArray)(w:World)(a:s.size<=maxLen) :
  Calls prog 85 #[s] w fun e w'=>e = .returned (.int .i64 (aC 0 s.data.toList:Nat))/\w'=w:=by
 have hb:aC 0 s.data.toList<4294967296:=gK _ _ (by omega);go_enter func85,ntmps85;go_wp2_with (go_at_call 117;apply(F8 _ _ _ (by omega) (by omega) a).mono;rintro e w'⟨rfl,rfl⟩);go_ret;exact⟨rfl,rfl⟩
def cmI(c:Int)(l:List UInt8):Int:=if inB c 0 4294967295=true then(aC c.toNat l:Nat)else -1
def Ib{c:Int}{l:List UInt8}(h:inB c 0 4294967295=true):cmI c l=(aC c.toNat l:Nat):=a0d h
def So{c:Int}{l:List UInt8}(h:inB c 0 4294967295=false):cmI c l = -1:=a0e (by simp[h])
def ck{a b:ByteArray}(h:a.data.toList=b.data.toList):a=b:=ByteArray.ext (Array.toList_inj.1 h)
