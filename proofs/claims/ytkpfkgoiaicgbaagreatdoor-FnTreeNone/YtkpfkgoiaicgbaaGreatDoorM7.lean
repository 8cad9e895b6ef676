/- Of what the proof is made: 3 texts, one behind the other. -/
import Derived.Test.YtkpfkgoiaicgbaaGreatDoorM6
import Derived.Laws.AppendOwnNone
import Derived.Deep.CutRange
set_option linter.unusedSimpArgs false
set_option linter.unusedVariables false
set_option maxHeartbeats 1600000
namespace Go
open Go.RowKit
theorem World.grownBy.same(w:World)(row:Option Nat):w.grownBy w row:=⟨rfl,rfl,rfl,Nat.le_refl _,fun _ _ _=>rfl⟩
theorem ik{P:Program}(w:World){ops:Array Oper}{rest:List Oper}{o:Oper}{a:Act}{Q:Exit->Act->World->Prop}(hgd:o.guard=none)(s x:Operand)(t:TypeId)
  (ho:o.op = .call { callee:=.builtin .append,args:=#[s,x],argTypes:=#[t,t] })
  (base:Nat) (e:TypeId) (i:TypeInfo) (z:Value) (size bytes:Nat) (ht:P.underlying t=some (.slice e)) (hi:P.info? e=some i) (hz:i.zero=some z)
  (hsize:i.size=size) (hby:i.bytes=bytes) (hzs:z.cells.size=size) (hsz:0<size)
  (v:Value) (n:Nat) (xs:List Value) (hs:a.eval s=v) (hown:w.ownsRow base e size v n xs)
  (vx:Value) (base' m:Nat) (news:List Value) (hx:a.eval x=vx) (hsrc:w.ownsRow base' e size vx m news) (h1:∀u∈news,u.oneCell'=true)
  (h63:n+m<=maxLen) (hbytes:(n+m)*bytes<=140737488355328) (hbase:base<=w.heap.size)
  (h:∀v' w',w'.ownsRow base e size v' (n+m) (xs++news)->w.grownBy w' v.ownBlock->wpList P ops Q rest (a.put o.dst v') w'):wpList P ops Q (o :: rest) a w:=by
 have hl:=hsrc.1;rcases hsrc.2 with⟨e0,h0⟩|⟨g,cap,cur,e0,hr⟩
 · subst h0;have hnil:news=[]:=List.eq_nil_of_length_eq_zero (by rw[hl];simp);subst hnil;refine wpList_append_own_none hgd s x t ho base e i size ht hi v n xs hs hown (hx.trans e0) ?_;refine h v w ?_ (World.grownBy.same _ _);rw[List.append_nil,Nat.add_zero];exact hown
 · subst e0;have hnews:=World.ownsRow.cells hsrc rfl;exact wpList_append_own w hgd s x t ho base e i z size bytes ht hi hz hsize hby hzs hsz v n xs hs hown ⟨g,0,none⟩ m cap news hx hl hnews h1 h63 hbytes hbase fun v' w' h2 h3 _=>h v' w' h2 h3
end Go
namespace Go.Proofs.YtkpfkgoiaicgbaaGreatDoor
open Go.RowKit Corb
theorem gn.below{w w':World}{b k B:Nat}(h:gn w b k)(hb:Below B w w')(hB:b<B):gn w' b k:=
 ⟨fun j hj=>⟨(hb.cell (p:=⟨b,j,none⟩) hB).trans (h.1 j hj).1,(hb.frozen (p:=⟨b,j,none⟩) hB).trans (h.1 j hj).2⟩,Nat.lt_of_lt_of_le h.2 hb.size⟩
theorem gn.drew{w:World}{b k:Nat}(h:gn w b k):gn w.drew b k:=h
theorem yJ(x:Nat)(h:x<4294967296):bits .and .u32 (x:Int) 15=(x:Int)%16:=by
 have:=u32_and_nat x 15 h (by omega);rw[show((15:Nat):Int)=15 from rfl]at this;rw[this,nat_mask4];omega
def half(x:Nat):Nat:=shN 4 (x%16) ^^^ (x/16)
theorem uN(x:Nat):half x=shN 4 x:=(II x).symm
theorem yI(x:Nat)(h:x<4294967296):bits .xor .u32 ((shN 4 (x%16):Nat):Int) ((x:Int)/16)=((half x:Nat):Int):=by
 have:=u32_xor_nat (shN 4 (x%16)) (x/16) (vr _ _ (by omega)) (by omega);rw[show((x/16:Nat):Int)=(x:Int)/16 by omega]at this;exact this
theorem oS(b:Nat)(x:Nat)(w:World)(h:gn w b 16) :
  Calls Tryz.prog 174 #[.int .u32 ((x:Int)%16),.pointer (some ⟨b,0,none⟩)] w fun e w'=>e = .returned (.int .u32 (shN 4 (x%16):Nat))/\w'=w:=by
 refine(vU b _ w h (by omega) (by omega)).mono ?_;rintro e w' ⟨rfl,rfl⟩;refine⟨?_,rfl⟩;rw[show((x:Int)%16).toNat=x%16 by omega]
theorem J8(x:Nat)(h:x<4294967296):half x<4294967296:=by rw[uN];exact vr _ _ h
theorem zr(b t:Nat)(x c:Int)(w:World)(h:Two w b (.int .u32 c) (.func (.func 174) #[] #[.pointer (some ⟨t,0,none⟩)]))(ht:gn w t 16)(htb:t<b)(c0:0<=c)(c1:c<4294967296)(x0:0<=x)(x1:x<256) :
  Calls Tryz.prog 254 #[.pointer (some ⟨b,0,none⟩),.int .u8 x] w fun e w'=>e = .returned (.tuple #[]) /\
   Two w' b (.int .u32 (shN 8 (c.toNat ^^^ x.toNat):Nat)) (.func (.func 174) #[] #[.pointer (some ⟨t,0,none⟩)])/\Below b w w':=by
 obtain⟨C,rfl⟩:=Int.eq_ofNat_of_zero_le c0;obtain⟨X,rfl⟩:=Int.eq_ofNat_of_zero_le x0;rw[Int.toNat_natCast,Int.toNat_natCast];have hx:=vy C X (by omega) (by omega);have hxl:C ^^^ X<4294967296:=Nat.xor_lt_two_pow (n:=32) (by omega) (by omega);have h':=h;obtain⟨k0,k1,f0,f1,hb⟩:=h;generalize C ^^^ X=Y at *
 have H8:Hid (shN 8 Y=half (half Y)):=by rw[uN,uN,←lE];exact rfl
 generalize shN 8 Y=R at *
 have hY2:=J8 Y hxl;have a1:=yJ Y hxl;have a2:=yI Y hxl;have a3:=yJ (half Y) hY2;have a4:=yI (half Y) hY2;generalize half (half Y)=Z2 at *
 generalize half Y=Z1 at *
 have T1:=h'.set0 (.int .u32 (Y:Int));have B1:Below b w (w.setCell ⟨b,0,none⟩ (.int .u32 (Y:Int))):=ai (Below.refl _ _) (Nat.le_refl _) _;have ht1:=ht.below B1 htb;have B1':=af B1;go_enter Tryz.func254,Tryz.ntmps254;go_wp2_with fail;generalize w.setCell ⟨b,0,none⟩ (.int .u32 (Y:Int))=W1 at *
 clear k0 k1 f0 f1 h' ht hx B1;obtain⟨k0,k1,f0,f1,hb1⟩:=T1;have T2:Hid (Two (W1.setCell ⟨b,0,none⟩ (.int .u32 (Z1:Int))).drew b (.int .u32 (Z1:Int)) (.func (.func 174) #[] #[.pointer (some ⟨t,0,none⟩)])):=(Two.set0 (w:=W1) ⟨k0,k1,f0,f1,hb1⟩ (.int .u32 (Z1:Int))).drew;have B2:Hid (Below b W1 (W1.setCell ⟨b,0,none⟩ (.int .u32 (Z1:Int))).drew):=(ai (Below.refl _ _) (Nat.le_refl _) _).drew;go_cut[]from 13 to 31 (fun wc=>wc=(W1.setCell ⟨b,0,none⟩ (.int .u32 (Z1:Int))).drew)
 case first=>
  go_region_with (go_at_call 174;refine(oS t _ _ ht1.drew).mono ?_;rintro e w' ⟨rfl,rfl⟩)
  all_goals
   go_wp2_with fail
   go_meet
   exact rfl
 case rest=>
  have ht2:=ht1.below (ae B2) htb;have T2':=ae T2;have B3:=(ae B1').trans (ae B2);rw[←hcut]at ht2 T2' B3;clear hcut k0 k1 f0 f1 T2 B2 B1' ht1;have B3':=af B3;have T3:=af T2';clear B3;obtain⟨k0,k1,f0,f1,hb2⟩:=T2';go_wp2_with fail
  go_region_with (go_at_call 174;refine(oS t _ _ ht2.drew).mono ?_;rintro e w' ⟨rfl,rfl⟩)
  all_goals
   go_end0
   refine⟨rfl,?_,?_⟩
   · rw[ae H8];exact((ae T3).set0 _).drew
   · exact(ai (ae B3') (Nat.le_refl _) _).drew
end Go.Proofs.YtkpfkgoiaicgbaaGreatDoor
namespace Go.Proofs.YtkpfkgoiaicgbaaGreatDoor
open Go.RowKit Corb
theorem Ae(a:Addr)(w:World):(method 476 203 (.pointer (some a)) "loop.example/corbel/impl.add").run Tryz.prog w = .ok (254,.pointer (some a)) w:=by kernel_rfl
theorem xB(a:Addr)(w:World):(method 476 203 (.pointer (some a)) "loop.example/corbel/impl.told").run Tryz.prog w = .ok (255,.pointer (some a)) w:=by kernel_rfl
theorem DX(a:Addr)(w:World):(nilAhead 476 203 (.pointer (some a)) "loop.example/corbel/impl.add").run Tryz.prog w = .ok (some false) w:=by kernel_rfl
theorem yH(x:Nat)(h:x<4294967296):bits .xor .u32 (x:Int) 4294967295=((x ^^^ full:Nat):Int):=u32_xor_nat x 4294967295 h (by omega)
theorem vV(b:Nat)(x:Nat)(v:Value)(w:World)(h:Two w b (.int .u32 (x:Int)) v)(hx:x<4294967296) :
  Calls Tryz.prog 255 #[.pointer (some ⟨b,0,none⟩)] w fun e w'=>e = .returned (.int .i64 (x ^^^ full:Nat))/\w'=w:=by
 obtain⟨c0,c1,f0,f1,hb⟩:=h;have ho:=yH x hx;have hl:x ^^^ full<4294967296:=Nat.xor_lt_two_pow (n:=32) hx (by decide);generalize x ^^^ full=y at *
 go_enter Tryz.func255,Tryz.ntmps255;go_wp2;go_ret;exact⟨rfl,rfl⟩
theorem vu(b t:Nat)(X:Nat)(s:ByteArray)(w:World)(h:Two w b (.int .u32 (X:Int)) (.func (.func 174) #[] #[.pointer (some ⟨t,0,none⟩)]))(ht:gn w t 16)(htb:t<b)(hX:X<4294967296)(hs:s.size<=maxLen) :
  Calls Tryz.prog 135 #[.iface 203 (.pointer (some ⟨b,0,none⟩)),.string s] w fun e w'=>e = .returned (.int .i64 (fold X s.data.toList ^^^ full:Nat))/\Below b w w':=by
 unfold maxLen at hs;have m1:=Ae ⟨b,0,none⟩;have m2:=xB ⟨b,0,none⟩;have m3:=DX ⟨b,0,none⟩;go_enter Tryz.func135,Tryz.ntmps135;go_wp2
 go_loopw [8] (fun i wr=>∃k:Nat,k<=s.size/\i = .int .i64 k/\Two wr b (.int .u32 (fold X (s.data.toList.take k):Nat)) (.func (.func 174) #[] #[.pointer (some ⟨t,0,none⟩)])/\Below b w wr) (fun i _=>s.size-(intOf i).toNat)
 case atStart=>exact⟨0,Nat.zero_le _,rfl,h,Below.refl _ _⟩
 case round=>
  obtain⟨k,hk,rfl,htwo,hbel⟩:=hrel;have hl:=Bo X (s.data.toList.take k) hX;have ht1:=ht.below hbel htb;clear ht h;by_cases hlt:k<s.size
  ·
   have hsn:Hid (fold X (s.data.toList.take (k+1))=shN 8 (fold X (s.data.toList.take k) ^^^ s[k].toNat)):=by
    rw[ED s k hlt,Dp];exact rfl
   have hb:(s[k].toNat:Int)<256:=by have:=A9 s[k];omega
   generalize fold X (s.data.toList.take k)=x at *
   go_wp2_with fail
   go_region_with (go_at_call 254;refine(zr b t _ _ _ htwo.drew ht1.drew htb (by omega) (by omega) (by omega) hb).mono ?_;rintro e w' ⟨rfl,htwo',hbel'⟩)
   all_goals
    go_wp2;go_roundw
    case rel=>exact⟨k+1,by omega,by go_num,by rw[ae hsn];exact htwo',hbel.drew.trans hbel'⟩
    case measure=>simp[intOf];omega
  ·
   have HE:Hid (fold X (s.data.toList.take k) ^^^ full=fold X s.data.toList ^^^ full):=by
    rw[List.take_of_length_le (by simp;omega)];exact rfl
   generalize fold X (s.data.toList.take k)=x at *
   go_wp2_with (go_at_call 255;refine(vV b _ _ _ htwo hl).mono ?_;rintro e w' ⟨rfl,rfl⟩);go_ret;exact⟨aR (by rw[ae HE]),hbel⟩
theorem pP(c:Int)(s:ByteArray)(w:World)(hs:s.size<=maxLen) :
  Calls Tryz.prog 81 #[.int .i64 c,.string s] w fun e w'=>e = .returned (.int .i64 (cmI c s.data.toList))/\Below w.heap.size w w':=by
 cases h:inB c 0 4294967295
 · have HI:=af (LJ (l:=s.data.toList) h);go_enter Tryz.func81,Tryz.ntmps81;go_wp2_with (go_at_call 134;refine(tY _ _).mono ?_;rintro e w' ⟨rfl,rfl⟩);go_ret;exact⟨aR (ae HI).symm,Below.refl _ _⟩
 ·
  have HI:=af (Ba (l:=s.data.toList) h);obtain⟨c1,c2⟩:=aD.1 h;obtain⟨C,rfl⟩:=Int.eq_ofNat_of_zero_le c1;have hx:=yH C (by omega);have hxl:C ^^^ full<4294967296:=Nat.xor_lt_two_pow (n:=32) (by omega) (by decide);have HF:Hid (cmI (C:Int) s.data.toList=((fold (C ^^^ full) s.data.toList ^^^ full:Nat):Int)):=by
   have:=ae HI;rw[this];exact rfl
  generalize C ^^^ full=X at *
  go_enter Tryz.func81,Tryz.ntmps81;go_wp2_with (first|(go_at_call 134;refine(tY _ _).mono ?_;rintro e w' ⟨rfl,rfl⟩)|(go_at_call 136;refine(uC _).mono ?_;rintro e w1 ⟨rfl,htab,hbel1⟩));have hlt:=htab.2;refine(vu w1.heap.size _ X s _ (Jb w1 _ _ _) (htab.below ((Below.refl _ w1).alloc (Nat.le_refl _) _) hlt) hlt hxl hs).mono ?_;rintro e w2 ⟨rfl,hbel2⟩;go_wp2;go_ret;exact⟨aR (ae HF).symm,hbel1.trans (((Below.refl _ w1).alloc (Nat.le_refl _) _).trans hbel2 |>.mono (Nat.le_of_lt hlt))⟩
theorem o8(s:ByteArray)(w:World)(hs:s.size<=maxLen) :
  Calls Tryz.prog 51 #[.string s] w fun e w'=>e = .returned (.int .i64 (aQ 0 s.data.toList:Nat))/\Below w.heap.size w w':=by
 have HI:Hid (cmI 0 s.data.toList=(aQ 0 s.data.toList:Nat)):=Ba (c:=0) (l:=s.data.toList) rfl;go_enter Tryz.func51,Tryz.ntmps51;go_wp2_with (go_at_call 81;refine(pP _ _ _ hs).mono ?_;rintro e w' ⟨rfl,hbel⟩);go_ret;exact⟨aR (ae HI),hbel⟩
end Go.Proofs.YtkpfkgoiaicgbaaGreatDoor
