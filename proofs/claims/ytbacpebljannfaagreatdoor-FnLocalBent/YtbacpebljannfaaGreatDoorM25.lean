/- Of what the proof is made: 2 texts, one behind the other. -/
import Derived.Test.YtbacpebljannfaaGreatDoorGq1
import Derived.Defers
import Derived.Recover
import Derived.OwnWalk
set_option linter.unusedSimpArgs false
set_option maxHeartbeats 1600000
namespace Go.Proofs.YtbacpebljannfaaGreatDoor
open Go.RowKit Corb
theorem xL(w:World) :
  CallsD Tryz.prog 153 #[] .returning w fun e u' w'=>e = .returned (.tuple #[])/\u' = .returning/\w'=w:=by
 refine callsD_of_wpS Tryz.func153 rfl fun c₀ cs hu=>?_;apply wpS_seq;apply wpS_region;simp[wpOpsS,go_sem,recoverD,hu,Tryz.ntmps153,Exit.thenS];refine wpS_of_wp ?_;go_wp2_with fail;cases c₀
 simp_all [bodyPostS,results,Tryz.results153]
set_option maxRecDepth 100000 in
theorem uY(w:World) :
  CallsD Tryz.prog 153 #[] (.panicking [{ v:=.iface 210 (.agg #[]),recovered:=false }]) w fun e u' w'=>e = .returned (.tuple #[])/\u' = .panicking [{ v:=.iface 210 (.agg #[]),recovered:=true }]/\Below w.heap.size w w':=by
 refine callsD_of_wpS Tryz.func153 rfl fun c₀ cs hu=>?_;apply wpS_seq;apply wpS_region;simp[wpOpsS,go_sem,recoverD,hu,Tryz.ntmps153,Exit.thenS];have hAs:(Instr.typeAssert (.iface 210 (.agg #[])) 20 210 true).run Tryz.prog w = .ok (.tuple #[.agg #[],.bool true]) w:=by kernel_rfl
 refine wpS_of_wp ?_;go_wp2_with fail;simp[bodyPostS,results,Tryz.results153];exact(a0c _ _).alloc (a0a _) _
def UnP(w:World)(b:Nat)(s:ByteArray)(d:Option (List UInt8×Nat))(e:Ending)(w':World):Prop:=
 KU b w w'/\match d with
  | none=>e = .returned (.bool false)
  | some (T,q)=>e = .returned (.bool true)/\Sou w' b s q T
set_option maxRecDepth 100000 in
theorem uM(b p:Nat)(s:ByteArray)(T:List UInt8)(w:World)(h:Sou w b s p T)(hT:T.length<=300)(hp:p<=8*s.size)(hs:s.size<=2000000)(hO:dT w)(hb:0<b) :
  Calls Tryz.prog 120 #[.pointer (some ⟨b,0,none⟩)] w (UnP w b s (lv (ap s) (8*s.size) p T)):=by
 have HP:=af (BR b p s T w h hT hp hs hO hb);have hlt:=h.lt;clear h hT hp hs hO hb;generalize lv (ap s) (8*s.size) p T=d at *
 have hmf:∀(fn:Fn) (first cap:Array Value) (w:World),(Instr.makeFunc fn first cap).run Tryz.prog w = .ok (.func fn first cap) w:=fun _ _ _ _=>rfl;unfold cR at HP;unfold UnP;rcases d with _|⟨T',q⟩
 ·
  go_enter_defers Tryz.func120,Tryz.ntmps120
  go_wp2_with fail;refine(ae HP).mono ?_;rintro e x1 ⟨k1,rfl⟩;have HY:=af (a0b k1 (show b<x1.heap.size from a0f hlt k1.1.size));clear k1 HP;unfold gt;refine leaves_cons (f:=153) (args:=#[]) (by simp) (by simp[go_sem]) ?_;refine(uY x1).mono ?_;rintro e u' w'' ⟨rfl,rfl,b2⟩;have hk:=(ae HY).1.later b2 (ae HY).2;simp[Leaves,settle,results,Tryz.results120,go_sem];exact hk
 ·
  go_enter_defers Tryz.func120,Tryz.ntmps120
  go_wp2_with fail;refine(ae HP).mono ?_;rintro e x1 ⟨k1,rfl,s1⟩;have HY:=af (a0b k1 s1);clear k1 s1 HP;go_wp2_with fail;refine leaves_cons (f:=153) (args:=#[]) (by simp) (by simp[go_sem]) ?_;refine(xL x1).mono ?_;rintro e u' w'' ⟨rfl,rfl,rfl⟩;simp[Leaves,settle,results,Tryz.results120,go_sem];exact ae HY
def fK(s:ByteArray):Option (List UInt8×Nat):=if s.size<=700 then lv (ap s) (8*s.size) 0 []else none
def AU(d:Option (List UInt8×Nat)):Value:=match d with
 | none=>.tuple #[.string ⟨#[]⟩,.int .i64 0,.bool false]
 | some (T,q)=>.tuple #[.string ⟨T.toArray⟩,.int .i64 ((q/8:Nat):Int),.bool true]
theorem tH{V sz p q:Nat}{T T':List UInt8}(h:lv V sz p T=some (T',q))(h8:sz%8=0):q<=sz/\p<q/\q%8=0/\(T.length<=300->T'.length<=300):=by
 unfold lv at h;rcases h1:jR V sz p T with _|⟨T1,q1⟩
 · rw[h1]at h;cases h
 rw[h1]at h;simp only[a0g]at h;rcases h2:ml V q1 with _|q2
 · rw[h2]at h;cases h
 rw[h2]at h;simp only[a0g,a0n,a08]at h;obtain⟨rfl,rfl⟩:=h;have b1:=BQ h1;have b2:=wM h2;exact⟨by omega,by omega,by omega,b1.2.2⟩
theorem Gx(w:World)(s:ByteArray)(t:TypeId):Sou (w.alloc (.cells #[.string s,.int .i64 0,.bool false,.slice none 0 0] t)) w.heap.size s 0 []:=by
 refine⟨?_,.slice none 0 0,by simp,by simp,a0Y _ _ _ _⟩;unfold Rdr;simp only[Nat.zero_min,Nat.not_lt_zero,decide_false];exact⟨by simp,by simp,by simp,by simp,by simp,by simp,by simp⟩
set_option maxRecDepth 100000 in
theorem ow(s:ByteArray)(w:World)(hs:s.size<=9223372036854775807)(hO:dT w) :
  Calls Tryz.prog 92 #[.string s] w fun e w'=>e = .returned (AU (fK s))/\Below w.heap.size w w':=by
 have hA:Below w.heap.size w (w.alloc (.cells #[.string s,.int .i64 0,.bool false,.slice none 0 0] 162)):=(a0c _ _).alloc (a0a _) _;by_cases hc:s.size<=700
 ·
  have hU:=uM w.heap.size 0 s [] _ (Gx w s 162) (by simp) (a0m _) (by omega) (hO.later hA) hO.2;have e:fK s=lv (ap s) (8*s.size) 0 []:=a0d hc;rw[←e]at hU;have hq:∀T q,fK s=some (T,q)->q<=8*s.size/\q<=5600:=fun T q h=>by
   rw[e]at h;have:=tH h (by omega);omega
  clear e;generalize fK s=d at *
  have HU:=af hU;have HA:=af hA;have hcI:(s.size:Int)<=700:=by omega
  clear hU hA hO hs hc;unfold UnP at HU;rcases d with _|⟨T,q⟩
  ·
   unfold AU;simp only;clear hq;go_enter Tryz.func92,Tryz.ntmps92;go_wp2_with fail;refine(ae HU).mono ?_;rintro e x1 ⟨k1,rfl⟩;have HK:=af k1.1;clear k1 HU;go_wp2
   go_ret3
   exact⟨rfl,(ae HA).trans (ae HK)⟩
  ·
   unfold AU;simp only;obtain⟨hq1,hq2⟩:=hq T q rfl;have hqI:(q:Int)<=5600:=by omega
   have Hq:=af hq1;clear hq hq1 hq2;go_enter Tryz.func92,Tryz.ntmps92;go_wp2_with fail;refine(ae HU).mono ?_;rintro e x1 ⟨k1,rfl,r1,v,c3,f3,o3⟩;have HK:=af k1.1;have c1:=(r1.at (ae Hq)).2.1;have hT:=o3.text;have hT':(convert 33 9 v).run Tryz.prog x1.drew = .ok (.string ⟨T.toArray⟩) x1.drew:=cf.text (w:=x1.drew) o3;clear k1 HU r1 f3 o3 Hq;go_wp2_with fail;have hmix:Tryz.prog.follows .mixedOrders=true:=by kernel_rfl
   have c1':x1.drew.cell? ⟨w.heap.size,1,none⟩=some (.int .i64 (q:Int)):=c1;have c3':x1.drew.cell? ⟨w.heap.size,3,none⟩=some v:=c3;refine wp_region_held_drew (S:=fun W=>W=x1.drew) hmix rfl (fun hS=>?_);refine ah 0 (.pointer (some ⟨w.heap.size,0,none⟩)) rfl (by kernel_rfl) (fun _ _ _ h=>h) rfl (fun W hSw=>by subst hSw;go_simp) hS ?_;refine ah 1 (.pointer (some ⟨w.heap.size,0,none⟩)) rfl (by kernel_rfl) (fun _ _ _ h=>h) rfl (fun W hSw=>by subst hSw;go_simp) hS ?_;refine ah 2 (.pointer (some ⟨w.heap.size,3,none⟩)) rfl (by kernel_rfl) (fun _ _ _ h=>h) rfl (fun W hSw=>by subst hSw;go_simp) hS ?_;refine ah 3 (v) rfl (by kernel_rfl) (fun _ _ _ h=>h) rfl (fun W hSw=>by subst hSw;go_simp) hS ?_;refine ah 4 (.string ⟨T.toArray⟩) rfl (by kernel_rfl) (fun _ _ _ h=>h) rfl (fun W hSw=>by subst hSw;go_simp) hS ?_;refine ah 5 (.pointer (some ⟨w.heap.size,0,none⟩)) rfl (by kernel_rfl) (fun _ _ _ h=>h) rfl (fun W hSw=>by subst hSw;go_simp) hS ?_;refine ah 6 (.pointer (some ⟨w.heap.size,0,none⟩)) rfl (by kernel_rfl) (fun _ _ _ h=>h) rfl (fun W hSw=>by subst hSw;go_simp) hS ?_;refine ah 7 (.pointer (some ⟨w.heap.size,0,none⟩)) rfl (by kernel_rfl) (fun _ _ _ h=>h) rfl (fun W hSw=>by subst hSw;go_simp) hS ?_;refine ah 8 (.pointer (some ⟨w.heap.size,1,none⟩)) rfl (by kernel_rfl) (fun _ _ _ h=>h) rfl (fun W hSw=>by subst hSw;go_simp) hS ?_;refine ah 9 (.int .i64 (q:Int)) rfl (by kernel_rfl) (fun _ _ _ h=>h) rfl (fun W hSw=>by subst hSw;go_simp) hS ?_;refine ah 10 (.int .i64 ((q/8:Nat):Int)) rfl (by kernel_rfl) (fun _ _ _ h=>h) rfl (fun W hSw=>by subst hSw;go_simp;rw[a1M];omega) hS ?_;refine ai 11 (by kernel_rfl) rfl fun K hK=>?_;go_simp;refine Shut.out hK _ _ rfl (fun hS=>?_);clear hK K;refine ai 12 (by kernel_rfl) rfl fun K hK=>?_;go_simp;refine Shut.out hK _ _ rfl (fun hS=>?_);clear hK K;refine ai 13 (by kernel_rfl) rfl fun K hK=>?_;go_simp;refine Shut.out hK _ _ rfl (fun hS=>?_);clear hK K;refine wpAnyH_done (by kernel_rfl) ?_ _;go_wp2
   go_ret3
   exact⟨rfl,(ae HA).trans (ae HK).drew⟩
 ·
  have e:fK s=none:=a0e hc;rw[e];have hcI:(700:Int)<(s.size:Int):=by omega
  have hsI:(s.size:Int)<=9223372036854775807:=by omega
  have HA:=af hA;clear hA hO hs hc e;unfold AU;simp only;go_enter Tryz.func92,Tryz.ntmps92;go_wp2
  go_ret3
  exact⟨rfl,ae HA⟩
end Go.Proofs.YtbacpebljannfaaGreatDoor
