/- Of what the proof is made: 4 texts, one behind the other. -/
import Derived.Test.YtchidddpplangaaGreatDoorM32
import Derived.Defers
import Derived.Recover
import Derived.OwnWalk
import Derived.Test.YtchidddpplangaaGreatDoorM27
set_option maxRecDepth 100000
set_option linter.unusedSimpArgs false
set_option linter.unusedVariables false
set_option maxHeartbeats 3200000
namespace Go.Proofs.YtchidddpplangaaGreatDoor
open Go.Proofs.Tryz
open Go.RowKit Corb
theorem Cx(w:World) :
  CallsD prog 209 #[] .returning w fun e u' w'=>e = .returned (.tuple #[])/\u' = .returning/\w'=w:=by
 refine callsD_of_wpS func209 rfl fun a c b=>?_;apply wpS_seq;apply wpS_region;simp[wpOpsS,go_sem,recoverD,b,ntmps209,Exit.thenS];refine wpS_of_wp ?_;go_wp2_with fail;cases a
 simp_all [bodyPostS,results,results209]
theorem y6(w:World) :
  CallsD prog 209 #[] (.panicking [{ v:=.iface 288 (.agg #[]),recovered:=false }]) w fun e u' w'=>e = .returned (.tuple #[])/\u' = .panicking [{ v:=.iface 288 (.agg #[]),recovered:=true }]/\Below w.heap.size w w':=by
 refine callsD_of_wpS func209 rfl fun d c b=>?_;apply wpS_seq;apply wpS_region;simp[wpOpsS,go_sem,recoverD,b,ntmps209,Exit.thenS];have a:(Instr.typeAssert (.iface 288 (.agg #[])) 20 288 true).run prog w = .ok (.tuple #[.agg #[],.bool true]) w:=by kernel_rfl
 refine wpS_of_wp ?_;go_wp2_with fail;simp[bodyPostS,results,results209];exact(a0c _ _).alloc (a0a _) _
def UnP(w:World)(b:Nat)(s:ByteArray)(d:Option (List UInt8×Nat))(e:Ending)(w':World):Prop:=
 KU b w w'/\match d with
  | none=>e = .returned (.bool false)
  | some (T,q)=>e = .returned (.bool true)/\Sou w' b s q T
theorem yE(b p:Nat)(s:ByteArray)(T:List UInt8)(w:World)(h:Sou w b s p T)(j:T.length<=300)(k:p<=8*s.size)(l:s.size<=2000000)(i:dT w)(hb:1<b) :
  Calls prog 180 #[.pointer (some ⟨b,0,none⟩)] w (UnP w b s (fH (aj s) (8*s.size) p T)):=by
 have HP:=ae (G8 b p s T w h j k l i hb);have g:=h.lt;clear h j k l i hb;generalize fH (aj s) (8*s.size) p T=d at *
 unfold cW at HP;unfold UnP;rcases d with _|⟨T',q⟩
 .
  go_enter_defers func180,ntmps180
  go_wp2_with fail;refine(ab HP).mono ?_;rintro e x1 ⟨a,rfl⟩;have c:=ae (a0b a (show b<x1.heap.size from a0m g a.1.size));clear a HP;unfold j6;refine leaves_cons (f:=209) (args:=#[]) (by simp) (by simp[go_sem]) ?_;refine(y6 x1).mono ?_;rintro e u' w'' ⟨rfl,rfl,m⟩;have n:=(ab c).1.later m (ab c).2;simp[Leaves,settle,results,results180,go_sem];exact n
 .
  go_enter_defers func180,ntmps180
  go_wp2_with fail;refine(ab HP).mono ?_;rintro e x1 ⟨a,rfl,s1⟩;have c:=ae (a0b a s1);clear a s1 HP;go_wp2_with fail;refine leaves_cons (f:=209) (args:=#[]) (by simp) (by simp[go_sem]) ?_;refine(Cx x1).mono ?_;rintro e u' w'' ⟨rfl,rfl,rfl⟩;simp[Leaves,settle,results,results180,go_sem];exact ab c
def eJ(s:ByteArray):Option (List UInt8×Nat):=if s.size<=700 then fH (aj s) (8*s.size) 0 []else none
def qi(d:Option (List UInt8×Nat)):Value:=match d with
 | none=>.tuple #[.string ⟨#[]⟩,.int .i64 0,.bool false]
 | some (T,q)=>.tuple #[.string ⟨T.toArray⟩,.int .i64 ((q/8:Nat):Int),.bool true]
theorem wO{V sz p q:Nat}{T T':List UInt8}(h:fH V sz p T=some (T',q))(e:sz%8=0):q<=sz/\p<q/\q%8=0/\(T.length<=300->T'.length<=300):=by
 unfold fH at h;rcases a:ib V sz p T with _|⟨T1,c⟩
 . rw[a]at h;cases h
 rw[a]at h;simp only[a0f]at h;rcases h2:gz V c with _|f
 . rw[h2]at h;cases h
 rw[h2]at h;simp only[a0f,a0l,a08]at h;obtain⟨rfl,rfl⟩:=h;have b:=G6 a;have d:=Bh h2;exact⟨by omega,by omega,by omega,b.2.2⟩
theorem M6(w:World)(s:ByteArray)(t:TypeId):Sou (w.alloc (.cells #[.string s,.int .i64 0,.bool false,.slice none 0 0] t)) w.heap.size s 0 []:=by
 refine⟨?_,.slice none 0 0,by simp,by simp,a00 _ _ _ _⟩;unfold Rdr;simp only[Nat.zero_min,Nat.not_lt_zero,decide_false];exact⟨by simp,by simp,by simp,by simp,by simp,by simp,by simp⟩
theorem qn(s:ByteArray)(w:World)(u:s.size<=9223372036854775807)(m:dT w) :
  Ds 136 #[.string s] w (qi (eJ s)):=by
 have g:Below w.heap.size w (w.alloc (.cells #[.string s,.int .i64 0,.bool false,.slice none 0 0] 245)):=(a0c _ _).alloc (a0a _) _;by_cases n:s.size<=700
 .
  have p:=yE w.heap.size 0 s [] _ (M6 w s 245) (by simp) (a0g _) (by omega) (m.later g) m.2;have e:eJ s=fH (aj s) (8*s.size) 0 []:=a0e n;rw[←e]at p;have hq:∀T q,eJ s=some (T,q)->q<=8*s.size/\q<=5600:=fun T q h=>by
   rw[e]at h;have:=wO h (by omega);omega
  clear e;generalize eJ s=d at *
  have f:=ae p;have l:=ae g;have r:(s.size:Int)<=700:=by omega
  clear p g m u n;unfold UnP at f;rcases d with _|⟨T,q⟩
  .
   unfold qi;simp only;clear hq;go_enter func136,ntmps136;go_wp2_with fail;refine(ab f).mono ?_;rintro e x1 ⟨k,rfl⟩;have o:=ae k.1;clear k f;go_wp2
   go_ret3
   exact⟨rfl,(ab l).trans (ab o)⟩
  .
   unfold qi;simp only;obtain⟨j,t⟩:=hq T q rfl;have B:(q:Int)<=5600:=by omega
   have Hq:=ae j;clear hq j t;go_enter func136,ntmps136;go_wp2_with fail;refine(ab f).mono ?_;rintro e x1 ⟨k,rfl,x,v,c3,f3,o3⟩;have o:=ae k.1;have c1:=(x.at (ab Hq)).2.1;have A:(convert 103 9 v).run prog x1.drew = .ok (.string ⟨T.toArray⟩) x1.drew:=aQ.text (w:=x1.drew) o3;clear k f x f3 o3 Hq;go_wp2_with fail;have i:prog.follows .mixedOrders=true:=by kernel_rfl
   have y:x1.drew.cell? ⟨w.heap.size,1,none⟩=some (.int .i64 (q:Int)):=c1;have z:x1.drew.cell? ⟨w.heap.size,3,none⟩=some v:=c3;refine wp_region_held_drew (S:=fun W=>W=x1.drew) i rfl (fun b=>?_);refine af 0 (.pointer (some ⟨w.heap.size,0,none⟩)) rfl (by kernel_rfl) (fun _ _ _ h=>h) rfl (fun W a=>by subst a;go_simp) b ?_;refine af 1 (.pointer (some ⟨w.heap.size,0,none⟩)) rfl (by kernel_rfl) (fun _ _ _ h=>h) rfl (fun W a=>by subst a;go_simp) b ?_;refine af 2 (.pointer (some ⟨w.heap.size,3,none⟩)) rfl (by kernel_rfl) (fun _ _ _ h=>h) rfl (fun W a=>by subst a;go_simp) b ?_;refine af 3 (v) rfl (by kernel_rfl) (fun _ _ _ h=>h) rfl (fun W a=>by subst a;go_simp) b ?_;refine af 4 (.string ⟨T.toArray⟩) rfl (by kernel_rfl) (fun _ _ _ h=>h) rfl (fun W a=>by subst a;go_simp) b ?_;refine af 5 (.pointer (some ⟨w.heap.size,0,none⟩)) rfl (by kernel_rfl) (fun _ _ _ h=>h) rfl (fun W a=>by subst a;go_simp) b ?_;refine af 6 (.pointer (some ⟨w.heap.size,0,none⟩)) rfl (by kernel_rfl) (fun _ _ _ h=>h) rfl (fun W a=>by subst a;go_simp) b ?_;refine af 7 (.pointer (some ⟨w.heap.size,0,none⟩)) rfl (by kernel_rfl) (fun _ _ _ h=>h) rfl (fun W a=>by subst a;go_simp) b ?_;refine af 8 (.pointer (some ⟨w.heap.size,1,none⟩)) rfl (by kernel_rfl) (fun _ _ _ h=>h) rfl (fun W a=>by subst a;go_simp) b ?_;refine af 9 (.int .i64 (q:Int)) rfl (by kernel_rfl) (fun _ _ _ h=>h) rfl (fun W a=>by subst a;go_simp) b ?_;refine af 10 (.int .i64 ((q/8:Nat):Int)) rfl (by kernel_rfl) (fun _ _ _ h=>h) rfl (fun W a=>by subst a;go_simp;rw[a0Z];omega) b ?_;refine ag 11 (by kernel_rfl) rfl fun K c=>?_;go_simp;refine Shut.out c _ _ rfl (fun b=>?_);clear c K;refine ag 12 (by kernel_rfl) rfl fun K c=>?_;go_simp;refine Shut.out c _ _ rfl (fun b=>?_);clear c K;refine ag 13 (by kernel_rfl) rfl fun K c=>?_;go_simp;refine Shut.out c _ _ rfl (fun b=>?_);clear c K;refine wpAnyH_done (by kernel_rfl) ?_ _;go_wp2
   go_ret3
   exact⟨rfl,(ab l).trans (ab o).drew⟩
 .
  have e:eJ s=none:=a0d n;rw[e];have r:(700:Int)<(s.size:Int):=by omega
  have l:=ae g;clear g m u n e;unfold qi;simp only;go_enter func136,ntmps136;go_wp2
  go_ret3
  exact⟨rfl,ab l⟩
theorem ow{V sz p:Nat}{T:List UInt8} : ib V sz p T=(px V sz p T).bind fun r=>if V/2 ^ p%2=1 then some r else ib V sz r.2 r.1:=by
 rw[rD];unfold px;by_cases a:p+1<=sz
 .
  rw[cR a];simp only[a0f];rcases rdN V sz (p+1) 2 with _|⟨k,q⟩
  . rfl
  . rfl
 . rw[fi a];rfl
def GmI(sz V:Nat)(D:Option (List UInt8×Nat))(T:List UInt8)(q:Nat)(f l:Bool):Prop:=
 (f=false->q<=sz/\T.length<=300+q)/\(f=false->T.length<=300->l=false->ib V sz q T=D)/\(f=false->T.length<=300->l=true->D=some (T,q))/\((f=true∨300<T.length)->D=none)
theorem GmI.next{sz V q g:Nat}{D:Option (List UInt8×Nat)}{T T':List UInt8}{f':Bool}(h:GmI sz V D T q false false)(k:MR sz (q+1+2) T (px V sz q T) T' g f'):GmI sz V D T' g f' (decide (((V/2 ^ q%2:Nat):Int)=1)):=by
 obtain⟨m,h2,_,i⟩:=h;obtain⟨m1,m2,m3,m4⟩:=k;have d:(f'=true∨300<T'.length)->D=none:=fun j=>by
  by_cases c:T.length<=300
  . rw[←h2 rfl c rfl,ow,m3 c j];rfl
  . exact i (.inr (by omega))
 have e:f'=false->T'.length<=300->T.length<=300:=fun b a=>by
  by_cases c:T.length<=300
  . exact c
  .
   rcases m4 (by omega)with h|h
   . rw[h]at b;cases b
   . omega
 refine⟨fun b=>⟨(m1 b).1,(m1 b).2.2⟩,fun b a f=>?_,fun b a f=>?_,d⟩
 . have c:=e b a;have l:=of_decide_eq_false f;rw[←h2 rfl c rfl,ow (V:=V) (sz:=sz) (p:=q) (T:=T),m2 c b a];simp only[a0f];rw[a0d (by omega)]
 . have c:=e b a;have l:=a3n f;rw[←h2 rfl c rfl,ow (V:=V) (sz:=sz) (p:=q) (T:=T),m2 c b a];simp only[a0f];rw[a0e (by omega)]
theorem Od(w:World)(s:ByteArray)(t:TypeId):RF (w.alloc (.cells #[.string s,.int .i64 0,.bool false] t)) w.heap.size s 0 false:=by
 unfold RF;simp only[Nat.zero_min];exact⟨by simp,by simp,by simp,by simp,by simp,by simp,by simp⟩
theorem Gp(s:ByteArray)(w:World)(hs:s.size<=2000) :
  Ds 90 #[.string s] w (qi (fH (aj s) (8*s.size) 0 [])):=by
 have H:prog.follows .mixedOrders=true:=by kernel_rfl
 obtain⟨D,hD⟩:∃D,ib (aj s) (8*s.size) 0 []=D:=⟨_,rfl⟩;have L:Hid (fH (aj s) (8*s.size) 0 []=D.bind fun r=>(gz (aj s) r.2).bind fun q=>some (r.1,q)):=by
  show _=_;unfold fH;rw[hD]
 have HD:=ae hD;have B:=ae hs;have a0:(s.size:Int)<=2000:=by omega
 have C:=Od w s 168;have A0:Below w.heap.size w (w.alloc (.cells #[.string s,.int .i64 0,.bool false] 168)):=(a0c _ _).alloc (a0a _) _;have b:w.heap.size+1=(w.alloc (.cells #[.string s,.int .i64 0,.bool false] 168)).heap.size:=by simp
 have Z:=ae (a0b C (a0b A0 b));clear hs hD C A0 b;go_enter func90,ntmps90;go_wp2_with fail;obtain⟨C,A0,b⟩:=ab Z;have G:World.ownsRow ((w.alloc (.cells #[.string s,.int .i64 0,.bool false] 168)).alloc (.cells #[] 5)) (w.heap.size+1) 5 1 (.slice (some ⟨w.heap.size+1,0,none⟩) 0 0) 0 []:=by
  have h:World.ownsRow ((w.alloc (.cells #[.string s,.int .i64 0,.bool false] 168)).alloc (.cells #[] 5)) (w.alloc (.cells #[.string s,.int .i64 0,.bool false] 168)).heap.size 5 1 (.slice (some ⟨(w.alloc (.cells #[.string s,.int .i64 0,.bool false] 168)).heap.size,0,none⟩) 0 0) 0 []:=a05 _ #[] 0 (a0a _) (by unfold maxLen;omega) rfl;rwa[←b]at h
 have A1:Below (w.heap.size+1) (w.alloc (.cells #[.string s,.int .i64 0,.bool false] 168)) ((w.alloc (.cells #[.string s,.int .i64 0,.bool false] 168)).alloc (.cells #[] 5)):=(a0c _ _).alloc (Nat.le_of_eq b) _;have R1:=C.kept A1;have Y:=ae (A0.trans (A1.mono (a06 _)));have k:Hid (aQ ((w.alloc (.cells #[.string s,.int .i64 0,.bool false] 168)).alloc (.cells #[] 5)) (w.heap.size+1) (.slice (some ⟨w.heap.size+1,0,none⟩) 0 0) []/\RF ((w.alloc (.cells #[.string s,.int .i64 0,.bool false] 168)).alloc (.cells #[] 5)) w.heap.size s 0 false):=⟨G,R1⟩;clear G A1 R1 A0 C b Z;generalize (w.alloc (.cells #[.string s,.int .i64 0,.bool false] 168)).alloc (.cells #[] 5)=x1 at *
 go_loopw [6,7,8,9] (fun v l _ _ wr=>∃(T:List UInt8) (q:Nat) (f l':Bool),l = .bool l'/\aQ wr (w.heap.size+1) v T/\RF wr w.heap.size s q f/\Below w.heap.size w wr/\GmI (8*s.size) (aj s) D T q f l') (fun _ l _ _ wr=>match l with | .bool true=>0|_=>qf w.heap.size (8*s.size) wr)
 case atStart=>exact⟨[],0,false,false,rfl,(ab k).1,(ab k).2,ab Y,⟨fun _=>⟨a0g _,a0g _⟩,fun _ _ _=>ab HD,fun _ _=>nofun,fun h=>by rcases h with h|h<;>simp at h⟩⟩
 case round=>
  obtain⟨T,q,f,l,rfl,V,O,u,hI⟩:=hrel;clear k Y;obtain⟨m,hm⟩:∃m,T.length=m:=⟨_,rfl⟩;obtain⟨va,vc,rfl⟩:=V.formN hm;obtain⟨c2,f2⟩:=O.bad;have x:=ae hm;have R:=ae V;have M:=ae O;have z:=ae u;have o:=ae hI;have A:=ae O.far;clear hm V O u hI;cases f
  .
   cases l
   .
    have hq:=(ab o).1 rfl;have HC:=ae (G3 w.heap.size q m vc va s T wr (ab x) (ab R) (oA (ab M) hq.1) hq.1 (ab B) (by have:=ab x;omega));have Hq:=ae hq;clear hq;go_wp2_with fail;refine(ab HC).mono ?_;rintro e x2 ⟨g,v2,T2,X,f2',rfl,o2,d,m2⟩;have E:=(ab o).next m2
    have P:Hid ((match (Value.bool (decide (((aj s/2 ^ q%2:Nat):Int)=1)))with | .bool true=>0|_=>qf w.heap.size (8*s.size) x2)<qf w.heap.size (8*s.size) wr):=by
     show _<_;rw[ab A];have:=(ab Hq).1;simp only[a01,a02];cases hl:decide (((aj s/2 ^ q%2:Nat):Int)=1)
     .
      simp only;rw[d.far];cases f2'
      . have:=m2.1 rfl;simp only[a01,a02];omega
      . simp only[a0X];omega
     . simp only;omega
    generalize decide (((aj s/2 ^ q%2:Nat):Int)=1)=l2 at *
    have N:Hid (aQ x2 (w.heap.size+1) v2 T2/\RF x2 w.heap.size s X f2'/\Below w.heap.size w x2/\GmI (8*s.size) (aj s) D T2 X f2' l2):=⟨o2,d,(ab z).trans g.1,E⟩;clear g o2 d m2 E HC;go_wp2_with fail;go_roundw
    case rel=>exact⟨T2,X,f2',l2,rfl,(ab N).1,(ab N).2.1,(ab N).2.2.1,(ab N).2.2.2⟩
    case measure=>exact ab P
   .
    have hq:=(ab o).1 rfl;have i:=ae (pO w.heap.size q false s wr (ab M) hq.1 (by have:=ab B;omega));have Hq:=ae hq;have an:(m:Int)<=100000:=by have:=ab x;have:=ab B;omega
    have F:Hid (gz (aj s) q=if aj s/2 ^ q%2 ^ ((8-q%8)%8)=0 then some (q+(8-q%8)%8)else none):=rfl;obtain⟨Q,hQ⟩:∃Q,q+(8-q%8)%8=Q:=⟨_,rfl⟩;have U:Q<=8*s.size:=by omega
    rw[hQ]at i F;clear hq hQ;by_cases j:aj s/2 ^ q%2 ^ ((8-q%8)%8)=0
    .
     rw[a0v j]at i;rw[a0e j]at F;clear j;by_cases y:m<=300
     .
      have p:Hid (fH (aj s) (8*s.size) 0 []=some (T,Q)):=by
       show _=_;rw[ab L,(ab o).2.2.1 rfl (by rw[ab x];exact y) rfl];simp only[a0f];rw[ab F];rfl
      go_wp2_with fail;refine(ab i).mono ?_;rintro e x2 ⟨rfl,d,g⟩;obtain⟨c3,f3⟩:=d.bad;have c1:x2.cell? ⟨w.heap.size,1,none⟩=some (.int .i64 (Q:Int)):=by have:=d.2.1;rwa[a1h U]at this
      have o2:=(ab R).keep1 g (a0i _);have al:(convert 103 9 (.slice va m vc)).run prog x2.drew = .ok (.string ⟨T.toArray⟩) x2.drew:=aQ.text (w:=x2.drew) o2;have ac:x2.drew.cell? ⟨w.heap.size,1,none⟩=some (.int .i64 (Q:Int)):=c1;have ad:(Q:Int)<=16000:=by have:=ab B;omega
      have c:=ae ((ab z).trans g.1);clear i d g o2 M R;go_wp2_with fail;refine wp_region_held_drew (S:=fun W=>W=x2.drew) H rfl (fun n=>?_);refine af 0 (.slice va m vc) rfl (by kernel_rfl) (fun _ _ _ h=>h) rfl (fun W a=>by subst a;go_simp) n ?_;refine af 1 (.string ⟨T.toArray⟩) rfl (by kernel_rfl) (fun _ _ _ h=>h) rfl (fun W a=>by subst a;go_simp) n ?_;refine af 2 (.pointer (some ⟨w.heap.size,0,none⟩)) rfl (by kernel_rfl) (fun _ _ _ h=>h) rfl (fun W a=>by subst a;go_simp) n ?_;refine af 3 (.pointer (some ⟨w.heap.size,0,none⟩)) rfl (by kernel_rfl) (fun _ _ _ h=>h) rfl (fun W a=>by subst a;go_simp) n ?_;refine af 4 (.pointer (some ⟨w.heap.size,1,none⟩)) rfl (by kernel_rfl) (fun _ _ _ h=>h) rfl (fun W a=>by subst a;go_simp) n ?_;refine af 5 (.int .i64 (Q:Int)) rfl (by kernel_rfl) (fun _ _ _ h=>h) rfl (fun W a=>by subst a;go_simp) n ?_;refine af 6 (.int .i64 ((Q/8:Nat):Int)) rfl (by kernel_rfl) (fun _ _ _ h=>h) rfl (fun W a=>by subst a;go_simp;rw[a0Z];omega) n ?_;refine ag 7 (by kernel_rfl) rfl fun K t=>?_;go_simp;refine Shut.out t _ _ rfl (fun n=>?_);clear t K;refine ag 8 (by kernel_rfl) rfl fun K t=>?_;go_simp;refine Shut.out t _ _ rfl (fun n=>?_);clear t K;refine ag 9 (by kernel_rfl) rfl fun K t=>?_;go_simp;refine Shut.out t _ _ rfl (fun n=>?_);clear t K;refine wpAnyH_done (by kernel_rfl) ?_ _;go_wp2
      go_ret3
      exact⟨by rw[ab p];rfl,(ab c).drew⟩
     .
      have aa:(300:Int)<(m:Int):=by omega
      have p:Hid (fH (aj s) (8*s.size) 0 []=none):=by
       show _=_;rw[ab L,(ab o).2.2.2 (.inr (by rw[ab x];omega))];rfl
      go_wp2_with fail;refine(ab i).mono ?_;rintro e x2 ⟨rfl,d,g⟩;obtain⟨c3,f3⟩:=d.bad;have c:=ae ((ab z).trans g.1);clear i d g;go_wp2
      go_ret3
      exact⟨by rw[ab p];rfl,ab c⟩
    .
     rw[a0h j]at i;rw[a0d j]at F;clear j;have p:Hid (fH (aj s) (8*s.size) 0 []=none):=by
      show _=_;rw[ab L];by_cases y:m<=300
      . rw[(ab o).2.2.1 rfl (by rw[ab x];exact y) rfl];simp only[a0f];rw[ab F];rfl
      . rw[(ab o).2.2.2 (.inr (by rw[ab x];omega))];rfl
     go_wp2_with fail;refine(ab i).mono ?_;rintro e x2 ⟨rfl,d,g⟩;obtain⟨c3,f3⟩:=d.bad;have c:=ae ((ab z).trans g.1);clear i d g;go_wp2
     go_ret3
     exact⟨by rw[ab p];rfl,ab c⟩
  .
   have p:Hid (fH (aj s) (8*s.size) 0 []=none):=by
    show _=_;rw[ab L,(ab o).2.2.2 (.inl rfl)];rfl
   obtain⟨q0,I,J⟩:=(ab M).cut;have i:=ae (pO w.heap.size q0 true s wr J I (by have:=ab B;omega));clear J I;cases l
   .
    go_wp2_with fail;refine(ab i).mono ?_;rintro e x2 ⟨rfl,d,g⟩;obtain⟨c3,f3⟩:=d.bad;have c:=ae ((ab z).trans g.1);clear i d g;go_wp2
    go_ret3
    exact⟨by rw[ab p];rfl,ab c⟩
   .
    go_wp2_with fail;refine(ab i).mono ?_;rintro e x2 ⟨rfl,d,g⟩;obtain⟨c3,f3⟩:=d.bad;have c:=ae ((ab z).trans g.1);clear i d g;go_wp2
    go_ret3
    exact⟨by rw[ab p];rfl,ab c⟩
theorem qL(s:ByteArray)(w:World)(h:s.size<=9223372036854775807) :
  Ds 68 #[.string s] w (qi (eJ s)):=by
 by_cases c:s.size<=700
 .
  have a:=ae (Gp s w (by omega));have e:eJ s=fH (aj s) (8*s.size) 0 []:=a0e c;rw[←e]at a;have g:¬ (700:Int)<(s.size:Int):=by omega
  clear e h c;generalize eJ s=d at *
  rcases d with _|⟨T,q⟩
  .
   unfold qi at a ⊢;simp only at a ⊢;go_enter func68,ntmps68;go_wp2_with fail;refine(ab a).mono ?_;rintro e x1 ⟨rfl,b⟩;have f:=ae b;clear b a;go_wp2
   go_ret3
   exact⟨rfl,ab f⟩
  .
   unfold qi at a ⊢;simp only at a ⊢;go_enter func68,ntmps68;go_wp2_with fail;refine(ab a).mono ?_;rintro e x1 ⟨rfl,b⟩;have f:=ae b;clear b a;go_wp2
   go_ret3
   exact⟨rfl,ab f⟩
 .
  have e:eJ s=none:=a0d c;rw[e];have g:(700:Int)<(s.size:Int):=by omega
  clear h c e;unfold qi;simp only;go_enter func68,ntmps68;go_wp2
  go_ret3
  exact⟨rfl,a0c _ _⟩
end Go.Proofs.YtchidddpplangaaGreatDoor
