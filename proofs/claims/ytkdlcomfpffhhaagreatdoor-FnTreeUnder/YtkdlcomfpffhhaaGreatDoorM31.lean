/- Of what the proof is made: 2 texts, one behind the other. -/
import Derived.Test.YtkdlcomfpffhhaaGreatDoorM29
import Derived.Defers
import Derived.Recover
import Derived.OwnWalk
set_option linter.unusedSimpArgs false
set_option linter.unusedVariables false
set_option maxHeartbeats 1600000
namespace Go.Proofs.YtkdlcomfpffhhaaGreatDoor
open Go.RowKit Corb
theorem yW(w:World) :
  CallsD Tryz.prog 223 #[] .returning w fun e u' w'=>e = .returned (.tuple #[])/\u' = .returning/\w'=w:=by
 refine callsD_of_wpS Tryz.func223 rfl fun c₀ cs hu=>?_;apply wpS_seq;apply wpS_region;simp[wpOpsS,go_sem,recoverD,hu,Tryz.ntmps223,Exit.thenS];refine wpS_of_wp ?_;go_wp2_with fail;cases c₀
 simp_all [bodyPostS,results,Tryz.results223]
set_option maxRecDepth 100000 in
theorem vE(w:World) :
  CallsD Tryz.prog 223 #[] (.panicking [{ v:=.iface 306 (.agg #[]),recovered:=false }]) w fun e u' w'=>e = .returned (.tuple #[])/\u' = .panicking [{ v:=.iface 306 (.agg #[]),recovered:=true }]/\Below w.heap.size w w':=by
 refine callsD_of_wpS Tryz.func223 rfl fun c₀ cs hu=>?_;apply wpS_seq;apply wpS_region;simp[wpOpsS,go_sem,recoverD,hu,Tryz.ntmps223,Exit.thenS];have hAs:(Instr.typeAssert (.iface 306 (.agg #[])) 20 306 true).run Tryz.prog w = .ok (.tuple #[.agg #[],.bool true]) w:=by kernel_rfl
 refine wpS_of_wp ?_;go_wp2_with fail;simp[bodyPostS,results,Tryz.results223];exact(a0c _ _).alloc (a0a _) _
def UnP(w:World)(b:Nat)(s:ByteArray)(d:Option (List UInt8×Nat))(e:Ending)(w':World):Prop:=
 KU b w w'/\match d with
  | none=>e = .returned (.bool false)
  | some (T,q)=>e = .returned (.bool true)/\Sou w' b s q T
set_option maxRecDepth 100000 in
theorem vk(b p:Nat)(s:ByteArray)(T:List UInt8)(w:World)(h:Sou w b s p T)(hT:T.length<=300)(hp:p<=8*s.size)(hs:s.size<=2000000)(hO:dk w)(hb:1<b) :
  Calls Tryz.prog 201 #[.pointer (some ⟨b,0,none⟩)] w (UnP w b s (jz (au s) (8*s.size) p T)):=by
 have HP:=af (DW b p s T w h hT hp hs hO hb);have hlt:=h.lt;clear h hT hp hs hO hb;generalize jz (au s) (8*s.size) p T=d at *
 unfold bY at HP;unfold UnP;rcases d with _|⟨T',q⟩
 ·
  go_enter_defers Tryz.func201,Tryz.ntmps201
  go_wp2_with fail;refine(ae HP).mono ?_;rintro e x1 ⟨k1,rfl⟩;have HY:=af (a0b k1 (show b<x1.heap.size from a0k hlt k1.1.size));clear k1 HP;unfold iC;refine leaves_cons (f:=223) (args:=#[]) (by simp) (by simp[go_sem]) ?_;refine(vE x1).mono ?_;rintro e u' w'' ⟨rfl,rfl,b2⟩;have hk:=(ae HY).1.later b2 (ae HY).2;simp[Leaves,settle,results,Tryz.results201,go_sem];exact hk
 ·
  go_enter_defers Tryz.func201,Tryz.ntmps201
  go_wp2_with fail;refine(ae HP).mono ?_;rintro e x1 ⟨k1,rfl,s1⟩;have HY:=af (a0b k1 s1);clear k1 s1 HP;go_wp2_with fail;refine leaves_cons (f:=223) (args:=#[]) (by simp) (by simp[go_sem]) ?_;refine(yW x1).mono ?_;rintro e u' w'' ⟨rfl,rfl,rfl⟩;simp[Leaves,settle,results,Tryz.results201,go_sem];exact ae HY
def cG(s:ByteArray):Option (List UInt8×Nat):=if s.size<=700 then jz (au s) (8*s.size) 0 []else none
def Db(d:Option (List UInt8×Nat)):Value:=match d with
 | none=>.tuple #[.string ⟨#[]⟩,.int .i64 0,.bool false]
 | some (T,q)=>.tuple #[.string ⟨T.toArray⟩,.int .i64 ((q/8:Nat):Int),.bool true]
theorem tX{V sz p q:Nat}{T T':List UInt8}(h:jz V sz p T=some (T',q))(h8:sz%8=0):q<=sz/\p<q/\q%8=0/\(T.length<=300->T'.length<=300):=by
 unfold jz at h;rcases h1:ge V sz p T with _|⟨T1,q1⟩
 · rw[h1]at h;cases h
 rw[h1]at h;simp only[a0g]at h;rcases h2:iS V q1 with _|q2
 · rw[h2]at h;cases h
 rw[h2]at h;simp only[a0g,a0j,a0O]at h;obtain⟨rfl,rfl⟩:=h;have b1:=DV h1;have b2:=xJ h2;exact⟨by omega,by omega,by omega,b1.2.2⟩
theorem KN(w:World)(s:ByteArray)(t:TypeId):Sou (w.alloc (.cells #[.string s,.int .i64 0,.bool false,.slice none 0 0] t)) w.heap.size s 0 []:=by
 refine⟨?_,.slice none 0 0,by simp,by simp,a07 _ _ _ _⟩;unfold Rdr;simp only[Nat.zero_min,Nat.not_lt_zero,a3B];exact⟨by simp,by simp,by simp,by simp,by simp,by simp,by simp⟩
set_option maxRecDepth 100000 in
theorem nZ(s:ByteArray)(w:World)(hs:s.size<=9223372036854775807)(hO:dk w) :
  Calls Tryz.prog 162 #[.string s] w fun e w'=>e = .returned (Db (cG s))/\Below w.heap.size w w':=by
 have hA:Below w.heap.size w (w.alloc (.cells #[.string s,.int .i64 0,.bool false,.slice none 0 0] 284)):=(a0c _ _).alloc (a0a _) _;by_cases hc:s.size<=700
 ·
  have hU:=vk w.heap.size 0 s [] _ (KN w s 284) (by simp) (a0h _) (by omega) (hO.later hA) hO.2;have e:cG s=jz (au s) (8*s.size) 0 []:=a0d hc;rw[←e]at hU;have hq:∀T q,cG s=some (T,q)->q<=8*s.size/\q<=5600:=fun T q h=>by
   rw[e]at h;have:=tX h (by omega);omega
  clear e;generalize cG s=d at *
  have HU:=af hU;have HA:=af hA;have hcI:(s.size:Int)<=700:=by omega
  clear hU hA hO hs hc;unfold UnP at HU;rcases d with _|⟨T,q⟩
  ·
   unfold Db;simp only;clear hq;go_enter Tryz.func162,Tryz.ntmps162;go_wp2_with fail;refine(ae HU).mono ?_;rintro e x1 ⟨k1,rfl⟩;have HK:=af k1.1;clear k1 HU;go_wp2
   go_ret3
   exact⟨rfl,(ae HA).trans (ae HK)⟩
  ·
   unfold Db;simp only;obtain⟨hq1,hq2⟩:=hq T q rfl;have hqI:(q:Int)<=5600:=by omega
   have Hq:=af hq1;clear hq hq1 hq2;go_enter Tryz.func162,Tryz.ntmps162;go_wp2_with fail;refine(ae HU).mono ?_;rintro e x1 ⟨k1,rfl,r1,v,c3,f3,o3⟩;have HK:=af k1.1;have c1:=(r1.at (ae Hq)).2.1;have hT':(convert 22 9 v).run Tryz.prog x1.drew = .ok (.string ⟨T.toArray⟩) x1.drew:=bG.text (w:=x1.drew) o3;clear k1 HU r1 f3 o3 Hq;go_wp2_with fail;have hmix:Tryz.prog.follows .mixedOrders=true:=by kernel_rfl
   have c1':x1.drew.cell? ⟨w.heap.size,1,none⟩=some (.int .i64 (q:Int)):=c1;have c3':x1.drew.cell? ⟨w.heap.size,3,none⟩=some v:=c3;refine a0Q (S:=fun W=>W=x1.drew) hmix rfl (fun hS=>?_);refine ag 0 (.pointer (some ⟨w.heap.size,0,none⟩)) rfl (by kernel_rfl) (fun _ _ _ h=>h) rfl (fun W hSw=>by subst hSw;go_simp) hS ?_;refine ag 1 (.pointer (some ⟨w.heap.size,0,none⟩)) rfl (by kernel_rfl) (fun _ _ _ h=>h) rfl (fun W hSw=>by subst hSw;go_simp) hS ?_;refine ag 2 (.pointer (some ⟨w.heap.size,3,none⟩)) rfl (by kernel_rfl) (fun _ _ _ h=>h) rfl (fun W hSw=>by subst hSw;go_simp) hS ?_;refine ag 3 (v) rfl (by kernel_rfl) (fun _ _ _ h=>h) rfl (fun W hSw=>by subst hSw;go_simp) hS ?_;refine ag 4 (.string ⟨T.toArray⟩) rfl (by kernel_rfl) (fun _ _ _ h=>h) rfl (fun W hSw=>by subst hSw;go_simp) hS ?_;refine ag 5 (.pointer (some ⟨w.heap.size,0,none⟩)) rfl (by kernel_rfl) (fun _ _ _ h=>h) rfl (fun W hSw=>by subst hSw;go_simp) hS ?_;refine ag 6 (.pointer (some ⟨w.heap.size,0,none⟩)) rfl (by kernel_rfl) (fun _ _ _ h=>h) rfl (fun W hSw=>by subst hSw;go_simp) hS ?_;refine ag 7 (.pointer (some ⟨w.heap.size,0,none⟩)) rfl (by kernel_rfl) (fun _ _ _ h=>h) rfl (fun W hSw=>by subst hSw;go_simp) hS ?_;refine ag 8 (.pointer (some ⟨w.heap.size,1,none⟩)) rfl (by kernel_rfl) (fun _ _ _ h=>h) rfl (fun W hSw=>by subst hSw;go_simp) hS ?_;refine ag 9 (.int .i64 (q:Int)) rfl (by kernel_rfl) (fun _ _ _ h=>h) rfl (fun W hSw=>by subst hSw;go_simp) hS ?_;refine ag 10 (.int .i64 ((q/8:Nat):Int)) rfl (by kernel_rfl) (fun _ _ _ h=>h) rfl (fun W hSw=>by subst hSw;go_simp;rw[a2D];omega) hS ?_;refine ah 11 (by kernel_rfl) rfl fun K hK=>?_;go_simp;refine a0f hK _ _ rfl (fun hS=>?_);clear hK K;refine ah 12 (by kernel_rfl) rfl fun K hK=>?_;go_simp;refine a0f hK _ _ rfl (fun hS=>?_);clear hK K;refine ah 13 (by kernel_rfl) rfl fun K hK=>?_;go_simp;refine a0f hK _ _ rfl (fun hS=>?_);clear hK K;refine a0F (by kernel_rfl) ?_ _;go_wp2
   go_ret3
   exact⟨rfl,(ae HA).trans (ae HK).drew⟩
 ·
  have e:cG s=none:=a0e hc;rw[e];have hcI:(700:Int)<(s.size:Int):=by omega
  have HA:=af hA;clear hA hO hs hc e;unfold Db;simp only;go_enter Tryz.func162,Tryz.ntmps162;go_wp2
  go_ret3
  exact⟨rfl,ae HA⟩
end Go.Proofs.YtkdlcomfpffhhaaGreatDoor
