/- Of what the proof is made: 2 texts, one behind the other. -/
import Derived.Test.YtkpfkgoiaicgbaaGreatDoorM27
import Derived.Defers
import Derived.Recover
import Derived.OwnWalk
set_option linter.unusedSimpArgs false
set_option linter.unusedVariables false
set_option maxHeartbeats 1600000
namespace Go.Proofs.YtkpfkgoiaicgbaaGreatDoor
open Go.RowKit Corb
theorem zi(w:World) :
  CallsD Tryz.prog 198 #[] .returning w fun e u' w'=>e = .returned (.tuple #[])/\u' = .returning/\w'=w:=by
 refine callsD_of_wpS Tryz.func198 rfl fun c₀ cs hu=>?_;apply wpS_seq;apply wpS_region;simp[wpOpsS,go_sem,recoverD,hu,Tryz.ntmps198,Exit.thenS];refine wpS_of_wp ?_;go_wp2_with fail;cases c₀
 simp_all [bodyPostS,results,Tryz.results198]
set_option maxRecDepth 100000 in
theorem vQ(w:World) :
  CallsD Tryz.prog 198 #[] (.panicking [{ v:=.iface 308 (.agg #[]),recovered:=false }]) w fun e u' w'=>e = .returned (.tuple #[])/\u' = .panicking [{ v:=.iface 308 (.agg #[]),recovered:=true }]/\Below w.heap.size w w':=by
 refine callsD_of_wpS Tryz.func198 rfl fun c₀ cs hu=>?_;apply wpS_seq;apply wpS_region;simp[wpOpsS,go_sem,recoverD,hu,Tryz.ntmps198,Exit.thenS];have hAs:(Instr.typeAssert (.iface 308 (.agg #[])) 20 308 true).run Tryz.prog w = .ok (.tuple #[.agg #[],.bool true]) w:=by kernel_rfl
 refine wpS_of_wp ?_;go_wp2_with fail;simp[bodyPostS,results,Tryz.results198];exact(Below.refl _ _).alloc (Nat.le_refl _) _
def UnP(w:World)(b:Nat)(s:ByteArray)(d:Option (List UInt8×Nat))(e:Ending)(w':World):Prop:=
 KU b w w'/\match d with
  | none=>e = .returned (.bool false)
  | some (T,q)=>e = .returned (.bool true)/\Sou w' b s q T
set_option maxRecDepth 100000 in
theorem vz(b p:Nat)(s:ByteArray)(T:List UInt8)(w:World)(h:Sou w b s p T)(hT:T.length<=300)(hp:p<=8*s.size)(hs:s.size<=2000000)(hO:dk w)(hb:1<b) :
  Calls Tryz.prog 184 #[.pointer (some ⟨b,0,none⟩)] w (UnP w b s (jE (au s) (8*s.size) p T)):=by
 have HP:=af (Ee b p s T w h hT hp hs hO hb);have hlt:=h.lt;clear h hT hp hs hO hb;generalize jE (au s) (8*s.size) p T=d at *
 unfold bZ at HP;unfold UnP;rcases d with _|⟨T',q⟩
 ·
  go_enter_defers Tryz.func184,Tryz.ntmps184
  go_wp2_with fail;refine(ae HP).mono ?_;rintro e x1 ⟨k1,rfl⟩;have HY:=af (And.intro k1 (show b<x1.heap.size from Nat.lt_of_lt_of_le hlt k1.1.size));clear k1 HP;unfold iJ;refine leaves_cons (f:=198) (args:=#[]) (by simp) (by simp[go_sem]) ?_;refine(vQ x1).mono ?_;rintro e u' w'' ⟨rfl,rfl,b2⟩;have hk:=(ae HY).1.later b2 (ae HY).2;simp[Leaves,settle,results,Tryz.results184,go_sem];exact hk
 ·
  go_enter_defers Tryz.func184,Tryz.ntmps184
  go_wp2_with fail;refine(ae HP).mono ?_;rintro e x1 ⟨k1,rfl,s1⟩;have HY:=af (And.intro k1 s1);clear k1 s1 HP;go_wp2_with fail;refine leaves_cons (f:=198) (args:=#[]) (by simp) (by simp[go_sem]) ?_;refine(zi x1).mono ?_;rintro e u' w'' ⟨rfl,rfl,rfl⟩;simp[Leaves,settle,results,Tryz.results184,go_sem];exact ae HY
def cH(s:ByteArray):Option (List UInt8×Nat):=if s.size<=700 then jE (au s) (8*s.size) 0 []else none
def Dr(d:Option (List UInt8×Nat)):Value:=match d with
 | none=>.tuple #[.string ⟨#[]⟩,.int .i64 0,.bool false]
 | some (T,q)=>.tuple #[.string ⟨T.toArray⟩,.int .i64 ((q/8:Nat):Int),.bool true]
theorem uo{V sz p q:Nat}{T T':List UInt8}(h:jE V sz p T=some (T',q))(h8:sz%8=0):q<=sz/\p<q/\q%8=0/\(T.length<=300->T'.length<=300):=by
 unfold jE at h;rcases h1:gk V sz p T with _|⟨T1,q1⟩
 · rw[h1]at h;cases h
 rw[h1]at h;simp only[Option.bind_some]at h;rcases h2:iZ V q1 with _|q2
 · rw[h2]at h;cases h
 rw[h2]at h;simp only[Option.bind_some,Option.some.injEq,Prod.mk.injEq]at h;obtain⟨rfl,rfl⟩:=h;have b1:=Ed h1;have b2:=xX h2;exact⟨by omega,by omega,by omega,b1.2.2⟩
theorem K3(w:World)(s:ByteArray)(t:TypeId):Sou (w.alloc (.cells #[.string s,.int .i64 0,.bool false,.slice none 0 0] t)) w.heap.size s 0 []:=by
 refine⟨?_,.slice none 0 0,by simp,by simp,World.ownsRow_nil _ _ _ _⟩;unfold Rdr;simp only[Nat.zero_min,Nat.not_lt_zero,decide_false];exact⟨by simp,by simp,by simp,by simp,by simp,by simp,by simp⟩
set_option maxRecDepth 100000 in
theorem oq(s:ByteArray)(w:World)(hs:s.size<=9223372036854775807)(hO:dk w) :
  Calls Tryz.prog 152 #[.string s] w fun e w'=>e = .returned (Dr (cH s))/\Below w.heap.size w w':=by
 have hA:Below w.heap.size w (w.alloc (.cells #[.string s,.int .i64 0,.bool false,.slice none 0 0] 287)):=(Below.refl _ _).alloc (Nat.le_refl _) _;by_cases hc:s.size<=700
 ·
  have hU:=vz w.heap.size 0 s [] _ (K3 w s 287) (by simp) (Nat.zero_le _) (by omega) (hO.later hA) hO.2;have e:cH s=jE (au s) (8*s.size) 0 []:=if_pos hc;rw[←e]at hU;have hq:∀T q,cH s=some (T,q)->q<=8*s.size/\q<=5600:=fun T q h=>by
   rw[e]at h;have:=uo h (by omega);omega
  clear e;generalize cH s=d at *
  have HU:=af hU;have HA:=af hA;have hcI:(s.size:Int)<=700:=by omega
  clear hU hA hO hs hc;unfold UnP at HU;rcases d with _|⟨T,q⟩
  ·
   unfold Dr;simp only;clear hq;go_enter Tryz.func152,Tryz.ntmps152;go_wp2_with fail;refine(ae HU).mono ?_;rintro e x1 ⟨k1,rfl⟩;have HK:=af k1.1;clear k1 HU;go_wp2
   go_ret3
   exact⟨rfl,(ae HA).trans (ae HK)⟩
  ·
   unfold Dr;simp only;obtain⟨hq1,hq2⟩:=hq T q rfl;have hqI:(q:Int)<=5600:=by omega
   have Hq:=af hq1;clear hq hq1 hq2;go_enter Tryz.func152,Tryz.ntmps152;go_wp2_with fail;refine(ae HU).mono ?_;rintro e x1 ⟨k1,rfl,r1,v,c3,f3,o3⟩;have HK:=af k1.1;have c1:=(r1.at (ae Hq)).2.1;have hT':(convert 22 9 v).run Tryz.prog x1.drew = .ok (.string ⟨T.toArray⟩) x1.drew:=bH.text (w:=x1.drew) o3;clear k1 HU r1 f3 o3 Hq;go_wp2_with fail;have hmix:Tryz.prog.follows .mixedOrders=true:=by kernel_rfl
   have c1':x1.drew.cell? ⟨w.heap.size,1,none⟩=some (.int .i64 (q:Int)):=c1;have c3':x1.drew.cell? ⟨w.heap.size,3,none⟩=some v:=c3;refine wp_region_held_drew (S:=fun W=>W=x1.drew) hmix rfl (fun hS=>?_);refine ag 0 (.pointer (some ⟨w.heap.size,0,none⟩)) rfl (by kernel_rfl) (fun _ _ _ h=>h) rfl (fun W hSw=>by subst hSw;go_simp) hS ?_;refine ag 1 (.pointer (some ⟨w.heap.size,0,none⟩)) rfl (by kernel_rfl) (fun _ _ _ h=>h) rfl (fun W hSw=>by subst hSw;go_simp) hS ?_;refine ag 2 (.pointer (some ⟨w.heap.size,3,none⟩)) rfl (by kernel_rfl) (fun _ _ _ h=>h) rfl (fun W hSw=>by subst hSw;go_simp) hS ?_;refine ag 3 (v) rfl (by kernel_rfl) (fun _ _ _ h=>h) rfl (fun W hSw=>by subst hSw;go_simp) hS ?_;refine ag 4 (.string ⟨T.toArray⟩) rfl (by kernel_rfl) (fun _ _ _ h=>h) rfl (fun W hSw=>by subst hSw;go_simp) hS ?_;refine ag 5 (.pointer (some ⟨w.heap.size,0,none⟩)) rfl (by kernel_rfl) (fun _ _ _ h=>h) rfl (fun W hSw=>by subst hSw;go_simp) hS ?_;refine ag 6 (.pointer (some ⟨w.heap.size,0,none⟩)) rfl (by kernel_rfl) (fun _ _ _ h=>h) rfl (fun W hSw=>by subst hSw;go_simp) hS ?_;refine ag 7 (.pointer (some ⟨w.heap.size,0,none⟩)) rfl (by kernel_rfl) (fun _ _ _ h=>h) rfl (fun W hSw=>by subst hSw;go_simp) hS ?_;refine ag 8 (.pointer (some ⟨w.heap.size,1,none⟩)) rfl (by kernel_rfl) (fun _ _ _ h=>h) rfl (fun W hSw=>by subst hSw;go_simp) hS ?_;refine ag 9 (.int .i64 (q:Int)) rfl (by kernel_rfl) (fun _ _ _ h=>h) rfl (fun W hSw=>by subst hSw;go_simp) hS ?_;refine ag 10 (.int .i64 ((q/8:Nat):Int)) rfl (by kernel_rfl) (fun _ _ _ h=>h) rfl (fun W hSw=>by subst hSw;go_simp;rw[IntKind.wrap_i64];omega) hS ?_;refine ah 11 (by kernel_rfl) rfl fun K hK=>?_;go_simp;refine Shut.out hK _ _ rfl (fun hS=>?_);clear hK K;refine ah 12 (by kernel_rfl) rfl fun K hK=>?_;go_simp;refine Shut.out hK _ _ rfl (fun hS=>?_);clear hK K;refine ah 13 (by kernel_rfl) rfl fun K hK=>?_;go_simp;refine Shut.out hK _ _ rfl (fun hS=>?_);clear hK K;refine wpAnyH_done (by kernel_rfl) ?_ _;go_wp2
   go_ret3
   exact⟨rfl,(ae HA).trans (ae HK).drew⟩
 ·
  have e:cH s=none:=if_neg hc;rw[e];have hcI:(700:Int)<(s.size:Int):=by omega
  have HA:=af hA;clear hA hO hs hc e;unfold Dr;simp only;go_enter Tryz.func152,Tryz.ntmps152;go_wp2
  go_ret3
  exact⟨rfl,ae HA⟩
end Go.Proofs.YtkpfkgoiaicgbaaGreatDoor
