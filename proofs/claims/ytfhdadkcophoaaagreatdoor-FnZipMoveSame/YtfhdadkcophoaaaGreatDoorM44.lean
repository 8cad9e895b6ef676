/- Of what the proof is made: 2 texts, one behind the other. -/
import Derived.Test.YtfhdadkcophoaaaGreatDoorM41
import Derived.Test.YtfhdadkcophoaaaGreatDoorM39
import Derived.Lib.ItoaNum
import Derived.Lib.IndexMore
import Derived.Test.YtfhdadkcophoaaaGreatDoorM18
import Derived.Test.YtfhdadkcophoaaaGreatDoorM4
set_option linter.unusedSimpArgs false
set_option linter.unusedVariables false
set_option maxHeartbeats 6400000
namespace Go.Proofs.YtfhdadkcophoaaaGreatDoor
open Corb
open Go.Lib (decDigits)
set_option maxRecDepth 100000
def ME(b:UInt8):Bool:=decide (48<=b.toNat)&&decide (b.toNat<=57)
def MF(l:List UInt8):Prop:=l≠[]/\(∀b∈l,ME b=true)/\¬ (1<l.length/\l.head?=some 48)
instance (l:List UInt8):Decidable (MF l):=inferInstanceAs (Decidable (_/\_/\_))
theorem AH:∀(k n:Nat),n<10 ^ (k+1)->(decDigits n).length<=k+1
 | 0,n,h=>by rw[decDigits,dif_pos (by simpa using h)];simp
 | k+1,n,h=>by
  by_cases h10:n<10
  · rw[decDigits,dif_pos h10];simp
  · rw[decDigits,dif_neg h10];have:=AH k (n/10) (by rw[a1j]at h;omega);simp;omega
end Go.Proofs.YtfhdadkcophoaaaGreatDoor
namespace Go.Proofs.YtfhdadkcophoaaaGreatDoor
open Go.RowKit Corb
open Go.Lib (decDigits)
set_option maxRecDepth 100000
theorem Cl{n:Nat}(h:n<10):decDigits n=[UInt8.ofNat (48+n)]:=by rw[decDigits,dif_pos h]
theorem Jv{n:Nat}(h:¬ n<10):decDigits n=decDigits (n/10)++[UInt8.ofNat (48+n%10)]:=by rw[decDigits,dif_neg h]
theorem Fw(n:Nat)(h:n<=9999999):(decDigits n).length<=7:=AH 6 n (by omega)
theorem Dh(n:Nat):n<=2000000->∀w,Calls Tryz.prog 104 #[.int .i64 (n:Nat)] w fun e w'=>e = .returned (.string ⟨(decDigits n).toArray⟩)/\Below w.heap.size w w':=by
 have hmix:Tryz.prog.follows .mixedOrders=true:=by kernel_rfl
 induction n using Nat.strongRecOn with
 | _ n ih=>
  intro hn w;have hnI:(n:Int)<=2000000:=by omega
  by_cases h:n<10
  ·
   obtain⟨y,hy⟩:∃y,48+n=y:=⟨_,rfl⟩;have HD:=af (Cl h);rw[hy]at HD;have h10:(n:Int)<10:=by omega
   have e5:(48:Int)+(n:Int)=(y:Int):=by omega
   have hyb:(y:Int)<58:=by omega
   have hu:IntKind.u8.wrap (y:Int)=(y:Int):=by simp only[IntKind.wrap,IntKind.bits,IntKind.signed];simp;omega
   have hcv:=(rn w w.heap.size y (a0a _) (by omega)).text;have HB:=af ((a0b w.heap.size w).alloc (a0a _) (.cells #[.int .u8 (y:Int)] 5));clear hy ih hn;go_enter Tryz.func104,Tryz.ntmps104;go_wp2;go_ret;exact⟨by rw[ae HD];rfl,ae HB⟩
  ·
   obtain⟨y,hy⟩:∃y,48+n%10=y:=⟨_,rfl⟩;obtain⟨q,hq⟩:∃q,n/10=q:=⟨_,rfl⟩;have HD:=af (Jv h);rw[hy,hq]at HD;have C:=af (ih q (by omega) (by omega));have h10:¬ (n:Int)<10:=by omega
   have hqI:(q:Int)<=2000000:=by omega
   have e1:Int.tmod (n:Int) 10=(y:Int)-48:=by rw[Int.tmod_eq_emod_of_nonneg (by omega)];omega
   have e2:Int.tdiv (n:Int) 10=(q:Int):=by rw[Int.tdiv_eq_ediv_of_nonneg (by omega)];omega
   have e3:(n:Int)%10=(y:Int)-48:=by omega
   have e4:(n:Int)/10=(q:Int):=by omega
   have e5:(48:Int)+((y:Int)-48)=(y:Int):=by omega
   have hyb:(y:Int)<58:=by omega
   have hyN:y<256:=by omega
   have hu:IntKind.u8.wrap (y:Int)=(y:Int):=by simp only[IntKind.wrap,IntKind.bits,IntKind.signed];simp;omega
   have wq:IntKind.i64.wrap (q:Int)=(q:Int):=by rw[a1T];omega
   have wy:IntKind.i64.wrap (y:Int)=(y:Int):=by rw[a1T];omega
   have hz:=Fw q (by omega);obtain⟨D,hD⟩:∃D,(⟨(decDigits q).toArray⟩:ByteArray)=D:=⟨_,rfl⟩;have hDz:D.size<=7:=by rw[←hD];exact hz
   have hno:¬ 9223372036854775807<D.size+(⟨#[UInt8.ofNat y]⟩:ByteArray).size:=by show ¬ _<D.size+1;omega
   have hno2:D.size<=9223372036854775806:=by omega
   have HRes:Hid ((⟨(decDigits n).toArray⟩:ByteArray)=D++⟨#[UInt8.ofNat y]⟩):=by
    show _=_;rw[ae HD,←hD];apply dD;simp
   rw[hD]at C;clear hy hq ih hn hz hD hDz HD;go_enter Tryz.func104,Tryz.ntmps104;go_wp2_with fail;have HB0:Hid (Below w.heap.size w w.drew):=(a0b _ _).drew;refine wp_region_held_drew (S:=fun W=>Below w.heap.size w W) hmix (ae HB0) (fun hS=>?_);refine ai 0 (.int .i64 (n:Nat)) rfl (by kernel_rfl) (fun _ _ _ h=>h) rfl (fun W hSw=>by go_simp) hS ?_;refine ai 1 (.int .i64 (q:Nat)) rfl (by kernel_rfl) (fun _ _ _ h=>h) rfl (fun W hSw=>by go_simp) hS ?_;refine ai 3 (.int .i64 (n:Nat)) rfl (by kernel_rfl) (fun _ _ _ h=>h) rfl (fun W hSw=>by go_simp) hS ?_;refine ai 4 (.int .i64 ((y:Int)-48)) rfl (by kernel_rfl) (fun _ _ _ h=>h) rfl (fun W hSw=>by go_simp) hS ?_;refine ai 5 (.int .i64 (y:Int)) rfl (by kernel_rfl) (fun _ _ _ h=>h) rfl (fun W hSw=>by go_simp) hS ?_;refine ai 6 (.int .u8 (y:Int)) rfl (by kernel_rfl) (fun _ _ _ h=>h) rfl (fun W hSw=>by go_simp) hS ?_;refine wpAnyH_ready (rs:=[2,7]) (by kernel_rfl) (by simp) ?_;refine AllReadyH.cons rfl (fun K hK=>?_) (AllReadyH.cons rfl (fun K hK=>?_) AllReadyH.nil)
   · go_simp;go_at_call 104;refine(ae C _).mono ?_;rintro e x1 ⟨rfl,Bd⟩;have HB1:=af (ag (ae HB0) Bd);have HA:=af ((ae HB1).alloc (ae HB1).size (.cells #[.int .u8 (y:Int)] 5));have hcv:=(rn x1 w.heap.size y (ae HB1).size hyN).text;refine Shut.out hK _ _ (ae HB1) (fun hS=>?_);clear hK K Bd;refine aj 7 (by kernel_rfl) rfl fun K hK=>?_;go_simp;refine Shut.out hK _ _ (ae HA) (fun hS=>?_);clear hK K;refine aj 8 (by kernel_rfl) rfl fun K hK=>?_;go_simp;refine Shut.out hK _ _ (ae HA) (fun hS=>?_);clear hK K;refine ai 9 (.string (D++⟨#[UInt8.ofNat y]⟩)) rfl (by kernel_rfl) (fun _ _ _ h=>h) rfl (fun W hSw=>by go_simp) hS ?_;refine ai 10 (.string (D++⟨#[UInt8.ofNat y]⟩)) rfl (by kernel_rfl) (fun _ _ _ h=>h) rfl (fun W hSw=>by go_simp) hS ?_;refine wpAnyH_done (by kernel_rfl) ?_ _;go_wp2;go_ret;exact⟨by rw[ae HRes];rfl,ae HA⟩
   · go_simp;have HA:Hid (Below w.heap.size w (w.alloc (.cells #[.int .u8 (y:Int)] 5)).drew):=((a0b w.heap.size w).alloc (a0a _) _).drew;have HO:Hid (bG (w.alloc (.cells #[.int .u8 (y:Int)] 5)).drew w.heap.size (.slice (some ⟨w.heap.size,0,none⟩) 1 1) [UInt8.ofNat y]):=(rn w w.heap.size y (a0a _) hyN).later (a0b _ _).drew (a0a _);obtain⟨WA,hWA⟩:∃x,(w.alloc (.cells #[.int .u8 (y:Int)] 5)).drew=x:=⟨_,rfl⟩;rw[hWA]at HA HO;rw[hWA];refine Shut.out hK _ _ (ae HA) (fun _=>?_);clear hK K hWA;refine lX (S':=fun W=>Below w.heap.size w W/\bG W w.heap.size (.slice (some ⟨w.heap.size,0,none⟩) 1 1) [UInt8.ofNat y]) (fun _ h=>h.1) _ _ _ _ ?_;have hS:Below w.heap.size w WA/\bG WA w.heap.size (.slice (some ⟨w.heap.size,0,none⟩) 1 1) [UInt8.ofNat y]:=⟨ae HA,ae HO⟩;refine ai 8 (.string ⟨#[UInt8.ofNat y]⟩) rfl (by kernel_rfl) (fun _ _ _ h=>h) rfl (fun W hSw=>by have hcv:=hSw.2.text;go_simp) hS ?_;refine aj 2 (by kernel_rfl) rfl fun K hK=>?_;go_simp;go_at_call 104;refine(ae C _).mono ?_;rintro e x1 ⟨rfl,Bd⟩;have HB1:=af (ag (ae HA) Bd);refine Shut.out hK _ _ ⟨ae HB1,(ae HO).later Bd (a0a _)⟩ (fun hS=>?_);clear hK K Bd;refine ai 9 (.string (D++⟨#[UInt8.ofNat y]⟩)) rfl (by kernel_rfl) (fun _ _ _ h=>h) rfl (fun W hSw=>by go_simp) hS ?_;refine ai 10 (.string (D++⟨#[UInt8.ofNat y]⟩)) rfl (by kernel_rfl) (fun _ _ _ h=>h) rfl (fun W hSw=>by go_simp) hS ?_;refine wpAnyH_done (by kernel_rfl) ?_ _;go_wp2;go_ret;exact⟨by rw[ae HRes];rfl,ae HB1⟩
end Go.Proofs.YtfhdadkcophoaaaGreatDoor
