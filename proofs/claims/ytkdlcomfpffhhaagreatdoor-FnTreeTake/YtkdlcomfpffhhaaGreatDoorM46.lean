/- Of what the proof is made: 2 texts, one behind the other. -/
import Derived.Test.YtkdlcomfpffhhaaGreatDoorM43
import Derived.Test.YtkdlcomfpffhhaaGreatDoorM42
import Derived.Lib.ItoaNum
import Derived.Lib.IndexMore
import Derived.Test.YtkdlcomfpffhhaaGreatDoorM16
import Derived.Test.YtkdlcomfpffhhaaGreatDoorM4
set_option maxRecDepth 100000
set_option linter.unusedSimpArgs false
set_option linter.unusedVariables false
set_option maxHeartbeats 6400000
namespace Go.Proofs.YtkdlcomfpffhhaaGreatDoor
open Corb
open Go.Lib (decDigits)
def Oi(b:UInt8):Bool:=decide (48<=b.toNat)&&decide (b.toNat<=57)
def Oj(l:List UInt8):Prop:=l≠[]/\(∀b∈l,Oi b=true)/\¬ (1<l.length/\l.head?=some 48)
instance (l:List UInt8):Decidable (Oj l):=inferInstanceAs (Decidable (_/\_/\_))
theorem Cw:∀(k n:Nat),n<10 ^ (k+1)->(decDigits n).length<=k+1
 | 0,n,h=>by rw[decDigits,dif_pos (by simpa using h)];simp
 | k+1,n,h=>by
  by_cases a:n<10
  . rw[decDigits,dif_pos a];simp
  . rw[decDigits,dif_neg a];have:=Cw k (n/10) (by rw[a12]at h;omega);simp;omega
end Go.Proofs.YtkdlcomfpffhhaaGreatDoor
namespace Go.Proofs.YtkdlcomfpffhhaaGreatDoor
open Go.RowKit Corb
open Go.Lib (decDigits)
theorem D9{n:Nat}(h:n<10):decDigits n=[UInt8.ofNat (48+n)]:=by rw[decDigits,dif_pos h]
theorem KM{n:Nat}(h:¬ n<10):decDigits n=decDigits (n/10)++[UInt8.ofNat (48+n%10)]:=by rw[decDigits,dif_neg h]
theorem G8(n:Nat)(h:n<=9999999):(decDigits n).length<=7:=Cw 6 n (by omega)
theorem ED(n:Nat):n<=2000000->∀w,CD 111 #[.int .i64 (n:Nat)] w (.string ⟨(decDigits n).toArray⟩):=by
 have m:Tryz.prog.follows .mixedOrders=true:=by kernel_rfl
 induction n using Nat.strongRecOn with
 | _ n ih=>
  intro u w;have B:(n:Int)<=2000000:=by omega
  by_cases h:n<10
  .
   obtain⟨y,hy⟩:∃y,48+n=y:=⟨_,rfl⟩;have j:=af (D9 h);rw[hy]at j;have r:(n:Int)<10:=by omega
   have e5:(48:Int)+(n:Int)=(y:Int):=by omega
   have t:(y:Int)<58:=by omega
   have G:IntKind.u8.wrap (y:Int)=(y:Int):=by simp only[IntKind.wrap,IntKind.bits,IntKind.signed];simp;omega
   have l:=(sx w w.heap.size y (a0a _) (by omega)).text;have A:=af ((a0c w.heap.size w).alloc (a0a _) (.cells #[.int .u8 (y:Int)] 5));clear hy ih u;go_enter Tryz.func111,Tryz.ntmps111;go_wp2;go_ret;exact⟨by rw[ae j];rfl,ae A⟩
  .
   obtain⟨y,hy⟩:∃y,48+n%10=y:=⟨_,rfl⟩;obtain⟨q,hq⟩:∃q,n/10=q:=⟨_,rfl⟩;have j:=af (KM h);rw[hy,hq]at j;have C:=af (ih q (by omega) (by omega));have r:¬ (n:Int)<10:=by omega
   have F:(q:Int)<=2000000:=by omega
   have e1:Int.tmod (n:Int) 10=(y:Int)-48:=by rw[a15 (by omega)];omega
   have e2:Int.tdiv (n:Int) 10=(q:Int):=by rw[Int.tdiv_eq_ediv_of_nonneg (by omega)];omega
   have e3:(n:Int)%10=(y:Int)-48:=by omega
   have e4:(n:Int)/10=(q:Int):=by omega
   have e5:(48:Int)+((y:Int)-48)=(y:Int):=by omega
   have t:(y:Int)<58:=by omega
   have o:y<256:=by omega
   have G:IntKind.u8.wrap (y:Int)=(y:Int):=by simp only[IntKind.wrap,IntKind.bits,IntKind.signed];simp;omega
   have wq:IntKind.i64.wrap (q:Int)=(q:Int):=by rw[a00];omega
   have wy:IntKind.i64.wrap (y:Int)=(y:Int):=by rw[a00];omega
   have z:=G8 q (by omega);obtain⟨D,hD⟩:∃D,(⟨(decDigits q).toArray⟩:ByteArray)=D:=⟨_,rfl⟩;have s:D.size<=7:=by rw[←hD];exact z
   have E:¬ 9223372036854775807<D.size+(⟨#[UInt8.ofNat y]⟩:ByteArray).size:=by show ¬ _<D.size+1;omega
   have v:D.size<=9223372036854775806:=by omega
   have g:Hid ((⟨(decDigits n).toArray⟩:ByteArray)=D++⟨#[UInt8.ofNat y]⟩):=by
    show _=_;rw[ae j,←hD];apply ii;simp
   rw[hD]at C;clear hy hq ih u z hD s j;go_enter Tryz.func111,Tryz.ntmps111;go_wp2_with fail;have k:Hid (Below w.heap.size w w.drew):=(a0c _ _).drew;refine a0H (S:=fun W=>Below w.heap.size w W) m (ae k) (fun b=>?_);refine ag 0 (.int .i64 (n:Nat)) rfl (by kernel_rfl) (fun _ _ _ h=>h) rfl (fun W a=>by go_simp) b ?_;refine ag 1 (.int .i64 (q:Nat)) rfl (by kernel_rfl) (fun _ _ _ h=>h) rfl (fun W a=>by go_simp) b ?_;refine ag 3 (.int .i64 (n:Nat)) rfl (by kernel_rfl) (fun _ _ _ h=>h) rfl (fun W a=>by go_simp) b ?_;refine ag 4 (.int .i64 ((y:Int)-48)) rfl (by kernel_rfl) (fun _ _ _ h=>h) rfl (fun W a=>by go_simp) b ?_;refine ag 5 (.int .i64 (y:Int)) rfl (by kernel_rfl) (fun _ _ _ h=>h) rfl (fun W a=>by go_simp) b ?_;refine ag 6 (.int .u8 (y:Int)) rfl (by kernel_rfl) (fun _ _ _ h=>h) rfl (fun W a=>by go_simp) b ?_;refine a0z (rs:=[2,7]) (by kernel_rfl) (by simp) ?_;refine a0C rfl (fun K d=>?_) (a0C rfl (fun K d=>?_) a0Y)
   . go_simp;go_at_call 111;refine(ae C _).mono ?_;rintro e x1 ⟨rfl,i⟩;have c:=af (am (ae k) i);have f:=af ((ae c).alloc (ae c).size (.cells #[.int .u8 (y:Int)] 5));have l:=(sx x1 w.heap.size y (ae c).size o).text;refine a0f d _ _ (ae c) (fun b=>?_);clear d K i;refine ah 7 (by kernel_rfl) rfl fun K d=>?_;go_simp;refine a0f d _ _ (ae f) (fun b=>?_);clear d K;refine ah 8 (by kernel_rfl) rfl fun K d=>?_;go_simp;refine a0f d _ _ (ae f) (fun b=>?_);clear d K;refine ag 9 (.string (D++⟨#[UInt8.ofNat y]⟩)) rfl (by kernel_rfl) (fun _ _ _ h=>h) rfl (fun W a=>by go_simp) b ?_;refine ag 10 (.string (D++⟨#[UInt8.ofNat y]⟩)) rfl (by kernel_rfl) (fun _ _ _ h=>h) rfl (fun W a=>by go_simp) b ?_;refine a0u (by kernel_rfl) ?_ _;go_wp2;go_ret;exact⟨by rw[ae g];rfl,ae f⟩
   . go_simp;have f:Hid (Below w.heap.size w (w.alloc (.cells #[.int .u8 (y:Int)] 5)).drew):=((a0c w.heap.size w).alloc (a0a _) _).drew;have p:Hid (aK (w.alloc (.cells #[.int .u8 (y:Int)] 5)).drew w.heap.size (.slice (some ⟨w.heap.size,0,none⟩) 1 1) [UInt8.ofNat y]):=(sx w w.heap.size y (a0a _) o).later (a0c _ _).drew (a0a _);obtain⟨WA,hWA⟩:∃x,(w.alloc (.cells #[.int .u8 (y:Int)] 5)).drew=x:=⟨_,rfl⟩;rw[hWA]at f p;rw[hWA];refine a0f d _ _ (ae f) (fun _=>?_);clear d K hWA;refine dL (S':=fun W=>Below w.heap.size w W/\aK W w.heap.size (.slice (some ⟨w.heap.size,0,none⟩) 1 1) [UInt8.ofNat y]) (fun _ h=>h.1) _ _ _ _ ?_;have b:Below w.heap.size w WA/\aK WA w.heap.size (.slice (some ⟨w.heap.size,0,none⟩) 1 1) [UInt8.ofNat y]:=⟨ae f,ae p⟩;refine ag 8 (.string ⟨#[UInt8.ofNat y]⟩) rfl (by kernel_rfl) (fun _ _ _ h=>h) rfl (fun W a=>by have l:=a.2.text;go_simp) b ?_;refine ah 2 (by kernel_rfl) rfl fun K d=>?_;go_simp;go_at_call 111;refine(ae C _).mono ?_;rintro e x1 ⟨rfl,i⟩;have c:=af (am (ae f) i);refine a0f d _ _ ⟨ae c,(ae p).later i (a0a _)⟩ (fun b=>?_);clear d K i;refine ag 9 (.string (D++⟨#[UInt8.ofNat y]⟩)) rfl (by kernel_rfl) (fun _ _ _ h=>h) rfl (fun W a=>by go_simp) b ?_;refine ag 10 (.string (D++⟨#[UInt8.ofNat y]⟩)) rfl (by kernel_rfl) (fun _ _ _ h=>h) rfl (fun W a=>by go_simp) b ?_;refine a0u (by kernel_rfl) ?_ _;go_wp2;go_ret;exact⟨by rw[ae g];rfl,ae c⟩
end Go.Proofs.YtkdlcomfpffhhaaGreatDoor
