/-
  A bridge says what it has to say on all its links, as the specification has it.
-/
import Derived.Test.YtkoekkjfcaiagaaGreatPSKW
import Derived.Test.YtkoekkjfcaiagaaGreatPSK01
import Derived.Test.YtkoekkjfcaiagaaGreatPSK06
import Derived.Test.YtkoekkjfcaiagaaGreatPSK16
import Derived.Test.YtkoekkjfcaiagaaGreatPSK29
namespace Go.Proofs.YtkoekkjfcaiagaaGreat
set_option maxRecDepth 100000
set_option maxHeartbeats 16000000
open Go.RowKit

abbrev q337:Oper:=⟨some 42,.load 29 (.tmp 41),29,"l14_step.go:30",#[⟨3,.data⟩],none⟩
abbrev q338:Oper:=⟨some 46,.load 31 (.tmp 45),31,"l14_step.go:30",#[⟨7,.data⟩],none⟩
abbrev q339:Oper:=⟨some 48,.call ⟨.value (.func 76),#[.tmp 46,.tmp 47,.const (.bool false)],#[31,3,4]⟩,65,"l14_step.go:30",#[⟨8,.data⟩,⟨9,.data⟩],none⟩
abbrev q340:Oper:=⟨some 49,.build 90 #[(0,.tmp 43),(2,.tmp 48)],90,"l14_step.go:30",#[⟨5,.data⟩,⟨10,.data⟩],none⟩
abbrev q341:Oper:=⟨some 50,.buildSlice 29 1 #[(0,.tmp 49)],29,"l14_step.go:30",#[⟨11,.data⟩],none⟩
abbrev q342:Oper:=⟨some 51,.call ⟨.builtin .append,#[.tmp 42,.tmp 50],#[29,29]⟩,29,"l14_step.go:30",#[⟨4,.data⟩,⟨12,.data⟩,⟨10,.chain⟩],none⟩
abbrev q343:Oper:=⟨some 52,.nilCheck (.tmp 38),0,"l14_step.go:30",#[⟨0,.data⟩,⟨0,.phase⟩,⟨1,.phase⟩,⟨2,.phase⟩,⟨3,.phase⟩,⟨4,.phase⟩,⟨5,.phase⟩,⟨6,.phase⟩,⟨7,.phase⟩,⟨8,.phase⟩,⟨9,.phase⟩,⟨10,.phase⟩,⟨11,.phase⟩,⟨12,.phase⟩,⟨13,.phase⟩],none⟩
abbrev q344:Oper:=⟨some 53,.fieldAddr 31 (.tmp 52) 2,0,"l14_step.go:30",#[⟨14,.data⟩,⟨0,.phase⟩,⟨1,.phase⟩,⟨2,.phase⟩,⟨3,.phase⟩,⟨4,.phase⟩,⟨5,.phase⟩,⟨6,.phase⟩,⟨7,.phase⟩,⟨8,.phase⟩,⟨9,.phase⟩,⟨10,.phase⟩,⟨11,.phase⟩,⟨12,.phase⟩,⟨13,.phase⟩],none⟩
abbrev q345:Oper:=⟨none,.store 29 (.tmp 53) (.tmp 51),0,"l14_step.go:30",#[⟨15,.data⟩,⟨13,.data⟩,⟨13,.chain⟩,⟨0,.phase⟩,⟨1,.phase⟩,⟨2,.phase⟩,⟨3,.phase⟩,⟨4,.phase⟩,⟨5,.phase⟩,⟨6,.phase⟩,⟨7,.phase⟩,⟨8,.phase⟩,⟨9,.phase⟩,⟨10,.phase⟩,⟨11,.phase⟩,⟨12,.phase⟩,⟨13,.phase⟩],none⟩
abbrev q346:Oper:=⟨some 68,.load 29 (.tmp 67),29,"l14_step.go:33",#[⟨3,.data⟩],none⟩
abbrev q347:Oper:=⟨some 72,.load 31 (.tmp 71),31,"l14_step.go:33",#[⟨7,.data⟩],none⟩
abbrev q348:Oper:=⟨some 74,.call ⟨.value (.func 76),#[.tmp 72,.tmp 73,.const (.bool true)],#[31,3,4]⟩,65,"l14_step.go:33",#[⟨8,.data⟩,⟨9,.data⟩],none⟩
abbrev q349:Oper:=⟨some 75,.build 90 #[(0,.tmp 69),(1,.const (.bool true)),(2,.tmp 74)],90,"l14_step.go:33",#[⟨5,.data⟩,⟨10,.data⟩],none⟩
abbrev q350:Oper:=⟨some 76,.buildSlice 29 1 #[(0,.tmp 75)],29,"l14_step.go:33",#[⟨11,.data⟩],none⟩
abbrev q351:Oper:=⟨some 77,.call ⟨.builtin .append,#[.tmp 68,.tmp 76],#[29,29]⟩,29,"l14_step.go:33",#[⟨4,.data⟩,⟨12,.data⟩,⟨10,.chain⟩],none⟩
abbrev q352:Oper:=⟨some 78,.nilCheck (.tmp 64),0,"l14_step.go:33",#[⟨0,.data⟩,⟨0,.phase⟩,⟨1,.phase⟩,⟨2,.phase⟩,⟨3,.phase⟩,⟨4,.phase⟩,⟨5,.phase⟩,⟨6,.phase⟩,⟨7,.phase⟩,⟨8,.phase⟩,⟨9,.phase⟩,⟨10,.phase⟩,⟨11,.phase⟩,⟨12,.phase⟩,⟨13,.phase⟩],none⟩
abbrev q353:Oper:=⟨some 79,.fieldAddr 31 (.tmp 78) 2,0,"l14_step.go:33",#[⟨14,.data⟩,⟨0,.phase⟩,⟨1,.phase⟩,⟨2,.phase⟩,⟨3,.phase⟩,⟨4,.phase⟩,⟨5,.phase⟩,⟨6,.phase⟩,⟨7,.phase⟩,⟨8,.phase⟩,⟨9,.phase⟩,⟨10,.phase⟩,⟨11,.phase⟩,⟨12,.phase⟩,⟨13,.phase⟩],none⟩
abbrev q354:Oper:=⟨none,.store 29 (.tmp 79) (.tmp 77),0,"l14_step.go:33",#[⟨15,.data⟩,⟨13,.data⟩,⟨13,.chain⟩,⟨0,.phase⟩,⟨1,.phase⟩,⟨2,.phase⟩,⟨3,.phase⟩,⟨4,.phase⟩,⟨5,.phase⟩,⟨6,.phase⟩,⟨7,.phase⟩,⟨8,.phase⟩,⟨9,.phase⟩,⟨10,.phase⟩,⟨11,.phase⟩,⟨12,.phase⟩,⟨13,.phase⟩],none⟩

theorem BOs.typed {w w':World} {base:Nat} {ao:Option Addr} {n cap:Nat} {l:List BV} (h:BOs w base ao n cap l) {base2 n2:Nat} {v2:Value} {xs2:List Value} (h2:w.ownsRow base2 90 7 v2 n2 xs2) (hg:w.grownBy w' v2.ownBlock):BOs w' base ao n cap l :=
 ⟨zA h.row h2 (by decide) hg,fun x hx=>⟨zA (h.item x hx).ports h2 (by decide) hg,zA (h.item x hx).f h2 (by decide) hg,⟨zA (h.item x hx).v.rows h2 (by decide) hg,zA (h.item x hx).v.own h2 (by decide) hg,(h.item x hx).v.i64⟩⟩,h.apart⟩

theorem NbSt.pushS {w w1 w2:World} {base X:Nat} {M:NV} {s:SY} (h:NbSt w base X M) (hb:Below w.heap.size w w1) (hg:w1.grownBy w2 (Value.slice M.sa M.sn M.sc).ownBlock) {ao':Option Addr} {cap':Nat} (hr:w2.ownsRow base 90 7 (.slice ao' (M.sn+1) cap') (M.sn+1) (sayF.all (M.ss++[s]))) :
  w2.heap[X]?=some (.cells #[.slice M.ba M.bn M.bc,.slice M.la M.ln M.lc,.slice M.sa M.sn M.sc] 31)∧NbSt (w2.setCell ⟨X,2,none⟩ (.slice ao' (M.sn+1) cap')) base X { M with sa:=ao',sn:=M.sn+1,sc:=cap',ss:=M.ss++[s] }∧Below base w (w2.setCell ⟨X,2,none⟩ (.slice ao' (M.sn+1) cap')):=by
 have h1:=h.later hb;have hrw:=h1.own.s;have k1:=ze h1.box hg (fun k hk=>zz hrw h1.box (by decide) k hk);have ob:=h1.own.b.typed hrw hg;have ol:=zA h1.own.l hrw (by decide) hg;have hgx:w2.grownBy (w2.setCell ⟨X,2,none⟩ (.slice ao' (M.sn+1) cap')) (some X):=zn 2 _;have nb:=NOwn.boxed (M:={ M with sa:=ao',sn:=M.sn+1,sc:=cap',ss:=M.ss++[s] }) ⟨ob,ol,hr⟩ k1 hgx;have b1:Below base w w1:=hb.mono h.size;have b2:=b1.grown hg (Nat.le_trans h.size hb.size) (by intro k hk; exact (hrw.lt k hk).1);have hle:=h.le;refine ⟨k1,⟨?_,nb,h.le⟩,b2.grown hgx (by have:=zaO k1; omega) (by intro k e; cases e; omega)⟩
 have:=zE (j:=2) k1 (.slice ao' (M.sn+1) cap')
 simpa using this

def sayAt (bs:List BR) (b p:Int):VD:=match bs[b.toNat]? with
 | some B=>sayV B.id B.ports p
 | none=>⟨0,0,0,0,0⟩
def za7 (bs:List BR) (ls:List LK) (b:Int) (ss:List SY) (k:Nat):List SY:=match ls[k]? with
 | some x=>if zak bs ls (k:Int)=true∧ss.length < 40 then (if x.a=b then ss++[⟨(k:Int),false,sayAt bs x.a x.p⟩] else if x.b=b then ss++[⟨(k:Int),true,sayAt bs x.b x.q⟩] else ss) else ss
 | none=>ss
def sayTo (bs:List BR) (ls:List LK) (b:Int) (ss:List SY):Nat→List SY
 | 0=>ss
 | k+1=>za7 bs ls b (sayTo bs ls b ss k) k

theorem zho {bs:List BR} {ls:List LK} {b:Int} {ss:List SY} {k:Nat} (h:zak bs ls (k:Int)=false):za7 bs ls b ss k=ss:=by unfold za7; split <;> simp [h]
theorem zjw {bs:List BR} {ls:List LK} {b:Int} {ss:List SY} {k:Nat} (h:¬ss.length < 40):za7 bs ls b ss k=ss:=by unfold za7; split <;> simp [h]
theorem one_a {bs:List BR} {ls:List LK} {b:Int} {ss:List SY} {k:Nat} {x:LK} (hu:zak bs ls (k:Int)=true) (h:ss.length < 40) (hx:ls[k]?=some x) (ha:x.a=b):za7 bs ls b ss k=ss++[⟨(k:Int),false,sayAt bs x.a x.p⟩]:=by unfold za7; rw [hx]; simp [hu,h,ha]
theorem one_b {bs:List BR} {ls:List LK} {b:Int} {ss:List SY} {k:Nat} {x:LK} (hu:zak bs ls (k:Int)=true) (h:ss.length < 40) (hx:ls[k]?=some x) (ha:x.a≠b) (hb:x.b=b):za7 bs ls b ss k=ss++[⟨(k:Int),true,sayAt bs x.b x.q⟩]:=by unfold za7; rw [hx]; simp [hu,h,ha,hb]
theorem zhp {bs:List BR} {ls:List LK} {b:Int} {ss:List SY} {k:Nat} {x:LK} (hx:ls[k]?=some x) (ha:x.a≠b) (hb:x.b≠b):za7 bs ls b ss k=ss:=by unfold za7; rw [hx]; simp [ha,hb]
theorem zj8 (bs:List BR) (ls:List LK) (b:Int) (ss:List SY) (k:Nat) (h:ss.length≤40):(za7 bs ls b ss k).length≤40:=by
 unfold za7
 split
 ·split
  ·split
   ·simp; omega
   ·split
    ·simp; omega
    ·exact h
  ·exact h
 ·exact h
theorem ziR (bs:List BR) (ls:List LK) (b:Int) (ss:List SY) (h:ss.length≤40):∀k,(sayTo bs ls b ss k).length≤40
 | 0=>h
 | k+1=>zj8 _ _ _ _ _ (ziR bs ls b ss h k)

theorem zaJ {bs:List BV} {b p:Int} {u:PT} (h:zaf (bs.map BV.B) b p=some u):∃(i:Nat) (y:BV),b=(i:Int)∧bs[i]?=some y:=by
 unfold zaf at h
 split at h
 ·rename_i hb
  cases hy:bs[b.toNat]? with
  | none=>rw [List.getElem?_map,hy] at h; cases h
  | some y=>exact ⟨b.toNat,y,by omega,hy⟩
 ·cases h
theorem zdu {bs:List BV} {i:Nat} {y:BV} (h:bs[i]?=some y) (p:Int):sayAt (bs.map BV.B) (i:Int) p=sayV y.B.id y.B.ports p:=by
 unfold sayAt;rw [Int.toNat_natCast,List.getElem?_map,h]
 rfl

theorem zjE (M:NV) (base X:Nat) (b:Int) (w:World) (h:NbSt w base X M) (he:∀x∈M.ls,za3 M.brs x) (hs:M.ss.length≤40) :
  Calls Tryz.prog 69 #[.pointer (some ⟨X,0,none⟩),.int .i64 b] w fun e w'=>e=.returned (.tuple #[])∧∃(sa:Option Addr) (sn sc:Nat),NbSt w' base X { M with sa:=sa,sn:=sn,sc:=sc,ss:=sayTo M.brs M.ls b M.ss M.ln }∧Below base w w':=by
 obtain ⟨ba,bn,bc,bs,la,ln,lc,ls,sa0,sn0,sc0,ss0⟩:=M;have he:∀x∈ls,za3 (bs.map BV.B) x:=he;dsimp only at hs
 show Calls Tryz.prog 69 #[.pointer (some ⟨X,0,none⟩),.int .i64 b] w fun e w'=>e=.returned (.tuple #[])∧∃(sa:Option Addr) (sn sc:Nat),NbSt w' base X ⟨ba,bn,bc,bs,la,ln,lc,ls,sa,sn,sc,sayTo (bs.map BV.B) ls b ss0 ln⟩∧Below base w w'
 have hll:ls.length=ln:=h.own.row.l.size;have HE:=hide he;have HS0:=hide hs;have hle:=Nat.le_trans h.own.row.l.le h.own.row.l.top;unfold maxLen at hle;dsimp only at hle;clear he hs;go_enter Tryz.func69,Tryz.ntmps69;go_wp2_with fail
 go_loopw [4] (fun i wr=>∃(k:Nat) (sa:Option Addr) (sn sc:Nat),k≤ln∧i=.int .i64 k∧NbSt wr base X ⟨ba,bn,bc,bs,la,ln,lc,ls,sa,sn,sc,sayTo (bs.map BV.B) ls b ss0 k⟩∧Below base w wr) (fun i _=>ln - (intOf i).toNat)
 case atStart=>exact ⟨0,sa0,sn0,sc0,Nat.zero_le _,rfl,h,Below.refl _ _⟩
 case round =>
  clear h;obtain ⟨k,sa,sn,sc,hk,rfl,st,hB⟩:=hrel;obtain ⟨x0,x1,x2⟩:=zd st.box;dsimp only at x0 x1 x2;by_cases hlt:k < ln
  ·obtain ⟨x,lb,lo,hx,hla,-⟩:=zaF st.own.row.l k hlt;dsimp only at hx hla;subst hla;have hsl:(sayTo (bs.map BV.B) ls b ss0 k).length=sn:=st.own.row.s.size;have hsn:sn≤40:=by rw [← hsl]; exact ziR _ _ _ _ HS0.out k
   have HX:=hide hx;have hnx:sayTo (bs.map BV.B) ls b ss0 (k+1)=za7 (bs.map BV.B) ls b (sayTo (bs.map BV.B) ls b ss0 k) k:=rfl;generalize sayTo (bs.map BV.B) ls b ss0 k=ss at *;have i0:(k:Int) < (ln:Int):=by omega
   have i1:(0:Int)≤(k:Int):=by omega
   (go_wp2_with fail);refine (zbw ⟨ba,bn,bc,bs,some ⟨lb,lo,none⟩,ln,lc,ls,sa,sn,sc,ss⟩ (k:Int) _ st.own.row).mono ?_;rintro e wr ⟨rfl,b1⟩;have hB:=hB.trans (b1.mono st.size);have st:=st.later b1;clear b1 x0 x1 x2;generalize hU:zak _ _ _=U;have hU:zak (bs.map BV.B) ls (k:Int)=U:=hU;obtain ⟨x0,x1,x2⟩:=zd st.box;dsimp only at x0 x1 x2;cases U
   ·have HS:Hid (sayTo (bs.map BV.B) ls b ss0 (k+1)=ss):=hide (by rw [hnx,zho hU]);clear hU hnx;have HST:=hide st;have HBN:=hide hB;clear st hB;go_wp2
    go_roundw
    case rel=>exact ⟨k+1,sa,sn,sc,by omega,by go_num,by rw [HS.out]; exact HST.out,HBN.out⟩
    case measure=>simp [intOf]; omega
   ·by_cases h40:sn < 40
    ·have g1:¬(40:Int)≤(sn:Int):=by omega
     obtain ⟨x',lb',lo',hx',hla',a0,a1,a2,a3⟩:=zaF st.own.row.l k hlt;dsimp only at hx' hla';rw [hx] at hx';cases hx';cases hla';obtain ⟨hnab,u,v,hpa,hpb,-⟩:=HE.out x (List.mem_of_getElem? hx);by_cases hab:x.a=b
     ·obtain ⟨i,y,hi,hy⟩:=zaJ hpa;have HS:Hid (sayTo (bs.map BV.B) ls b ss0 (k+1)=ss++[⟨(k:Int),false,sayV y.B.id y.B.ports x.p⟩]):=hide (by rw [hnx,one_a hU (by omega) hx hab,hi,zdu hy]);have HI:=hide hi;have HYI:=hide hy;have hxb:(x.b == b)=false:=by rw [← hab]; simpa using Ne.symm hnab
      have e1:(x.a == b)=true:=by simpa using hab
      generalize hSV:sayV y.B.id y.B.ports x.p=SV at *;have HSV:Hid (sayV y.B.id y.B.ports x.p=SV):=hide hSV;clear hpa hpb hx hy hi hnx hab hnab hSV;(go_upto_region 5 with fail);have vv:Below wr.heap.size wr wr.drew:=zp (Below.refl _ _);obtain ⟨x0,x1,x2⟩:=zd (za st.box vv);clear a0 a1 a2 a3 hU;refine wp_region_held_drew (S:=(fun _=>True)) (by kernel_rfl) (trivial) (fun hHeld => ?_);refine kK 0 ⟨some 38,.move (.tmp 0),109,"l14_step.go:30",#[],none⟩ ?_;refine kK 1 ⟨some 39,.move (.tmp 0),109,"l14_step.go:30",#[],none⟩ ?_;refine kK 2 ⟨some 40,.nilCheck (.tmp 39),0,"l14_step.go:30",#[⟨1,.data⟩],none⟩ ?_;refine kK 3 ⟨some 41,.fieldAddr 31 (.tmp 40) 2,0,"l14_step.go:30",#[⟨2,.data⟩],none⟩ ?_;refine kK 5 ⟨some 43,.move (.tmp 4),3,"l14_step.go:30",#[],none⟩ ?_;refine kK 6 ⟨some 44,.move (.tmp 0),109,"l14_step.go:30",#[],none⟩ ?_;refine kK 7 ⟨some 45,.nilCheck (.tmp 44),0,"l14_step.go:30",#[⟨6,.data⟩],none⟩ ?_;refine kK 9 ⟨some 47,.move (.tmp 4),3,"l14_step.go:30",#[],none⟩ ?_;refine tR [4,8] ?_;refine AllReadyH.cons (o:=q337) rfl (fun K hK => ?_) ?_
      ·go_simp;refine hK.out _ _ (trivial) (fun hHeld => ?_);clear hK K;(try simp only [Act.put,lA,lB,lC]);refine kR 8 q338 (fun K hK => ?_);go_simp;refine hK.out _ _ (trivial) (fun hHeld => ?_);clear hK K;(try simp only [Act.put,lA,lB,lC]);refine kR 10 q339 (fun K hK => ?_);go_simp;refine (zev ⟨ba,bn,bc,bs,some ⟨lb,lo,none⟩,ln,lc,ls,sa,sn,sc,ss⟩ k i x y _ (st.own.below vv).row HX.out HYI.out HI.out).mono ?_;rintro e wz ⟨rfl,hbz⟩;have vv:=zc vv hbz;obtain ⟨x0,x1,x2⟩:=zd (za st.box vv);rw [HSV.out];(go_wp2_with fail);refine hK.out _ _ (trivial) (fun hHeld => ?_);clear hK K;(try simp only [Act.put,lA,lB,lC]);refine kK 11 q340 ?_;refine kR 12 q341 (fun K hK => ?_);go_simp
       first
       | refine zy (K:=K _) (fun wx kY hbx => ?_)
       | refine zq (K:=K _) (fun wx kY hbx => ?_)
       have vv:=zc vv hbx;obtain ⟨x0,x1,x2⟩:=zd (za st.box vv);clear hbx;refine hK.out _ _ (trivial) (fun hHeld => ?_);clear hK K;(try simp only [Act.put,lA,lB,lC]);refine kR 13 q342 (fun K hK => ?_);have gn1:GRow sayF wx (some ⟨_,0,none⟩) 1 1 [(⟨(k:Int),false,SV⟩:SY)]:=zB (F:=sayF) (zaP sayF (base:=0) (l:=[(⟨(k:Int),false,SV⟩:SY)]) kY rfl (Nat.zero_le _) (by simp));refine zi (F:=sayF) rfl _ _ 29 90 rfl base Tryz.underlying29 zV rfl (by decide) _ sn ss rfl (zh st.own.s vv) _ 1 1 _ rfl gn1 (by omega) (Nat.le_trans st.size vv.size) ?_;intro aL cL wL how _ hgr hbL;obtain ⟨kX,stN,hBN⟩:=st.pushS (s:=(⟨(k:Int),false,SV⟩:SY)) vv hgr how;obtain ⟨x0,x1,x2⟩:=zd kX;have fz:=zf kX 2;refine hK.out _ _ (trivial) (fun hHeld => ?_);clear hK K;(try simp only [Act.put,lA,lB,lC]);refine kK 14 q343 ?_;refine kK 15 q344 ?_;refine kR 16 q345 (fun K hK => ?_);go_simp;refine hK.out _ _ (trivial) (fun hHeld => ?_);clear hK K;(try simp only [Act.put,lA,lB,lC]);refine wpAnyH_done (by kernel_rfl) ?_ _;have HST:=hide stN;have HBN:=hide (hB.trans hBN);obtain ⟨y0,y1,y2⟩:=zd stN.box;obtain ⟨x',lb',lo',hx',hla',a0,a1,a2,a3⟩:=zaF stN.own.row.l k hlt;dsimp only at hx' hla' y0 y1 y2;rw [HX.out] at hx';cases hx';cases hla';clear hHeld kX how hgr hbL x0 x1 x2 fz kY gn1 vv stN hBN;go_wp2
       go_roundw
       case rel=>exact ⟨k+1,aL,sn+1,cL,by omega,by go_num,by rw [HS.out]; exact HST.out,HBN.out⟩
       case measure=>simp [intOf]; omega
      refine AllReadyH.cons (o:=q338) rfl (fun K hK => ?_) ?_
      ·go_simp;refine hK.out _ _ (trivial) (fun hHeld => ?_);clear hK K;(try simp only [Act.put,lA,lB,lC]);refine tR [4,10] ?_;refine AllReadyH.cons (o:=q337) rfl (fun K hK => ?_) ?_
       ·go_simp;refine hK.out _ _ (trivial) (fun hHeld => ?_);clear hK K;(try simp only [Act.put,lA,lB,lC]);refine kR 10 q339 (fun K hK => ?_);go_simp;refine (zev ⟨ba,bn,bc,bs,some ⟨lb,lo,none⟩,ln,lc,ls,sa,sn,sc,ss⟩ k i x y _ (st.own.below vv).row HX.out HYI.out HI.out).mono ?_;rintro e wz ⟨rfl,hbz⟩;have vv:=zc vv hbz;obtain ⟨x0,x1,x2⟩:=zd (za st.box vv);rw [HSV.out];(go_wp2_with fail);refine hK.out _ _ (trivial) (fun hHeld => ?_);clear hK K;(try simp only [Act.put,lA,lB,lC]);refine kK 11 q340 ?_;refine kR 12 q341 (fun K hK => ?_);go_simp
        first
        | refine zy (K:=K _) (fun wx kY hbx => ?_)
        | refine zq (K:=K _) (fun wx kY hbx => ?_)
        have vv:=zc vv hbx;obtain ⟨x0,x1,x2⟩:=zd (za st.box vv);clear hbx;refine hK.out _ _ (trivial) (fun hHeld => ?_);clear hK K;(try simp only [Act.put,lA,lB,lC]);refine kR 13 q342 (fun K hK => ?_);have gn1:GRow sayF wx (some ⟨_,0,none⟩) 1 1 [(⟨(k:Int),false,SV⟩:SY)]:=zB (F:=sayF) (zaP sayF (base:=0) (l:=[(⟨(k:Int),false,SV⟩:SY)]) kY rfl (Nat.zero_le _) (by simp));refine zi (F:=sayF) rfl _ _ 29 90 rfl base Tryz.underlying29 zV rfl (by decide) _ sn ss rfl (zh st.own.s vv) _ 1 1 _ rfl gn1 (by omega) (Nat.le_trans st.size vv.size) ?_;intro aL cL wL how _ hgr hbL;obtain ⟨kX,stN,hBN⟩:=st.pushS (s:=(⟨(k:Int),false,SV⟩:SY)) vv hgr how;obtain ⟨x0,x1,x2⟩:=zd kX;have fz:=zf kX 2;refine hK.out _ _ (trivial) (fun hHeld => ?_);clear hK K;(try simp only [Act.put,lA,lB,lC]);refine kK 14 q343 ?_;refine kK 15 q344 ?_;refine kR 16 q345 (fun K hK => ?_);go_simp;refine hK.out _ _ (trivial) (fun hHeld => ?_);clear hK K;(try simp only [Act.put,lA,lB,lC]);refine wpAnyH_done (by kernel_rfl) ?_ _;have HST:=hide stN;have HBN:=hide (hB.trans hBN);obtain ⟨y0,y1,y2⟩:=zd stN.box;obtain ⟨x',lb',lo',hx',hla',a0,a1,a2,a3⟩:=zaF stN.own.row.l k hlt;dsimp only at hx' hla' y0 y1 y2;rw [HX.out] at hx';cases hx';cases hla';clear hHeld kX how hgr hbL x0 x1 x2 fz kY gn1 vv stN hBN;go_wp2
        go_roundw
        case rel=>exact ⟨k+1,aL,sn+1,cL,by omega,by go_num,by rw [HS.out]; exact HST.out,HBN.out⟩
        case measure=>simp [intOf]; omega
       refine AllReadyH.cons (o:=q339) rfl (fun K hK => ?_) ?_
       ·go_simp;refine (zev ⟨ba,bn,bc,bs,some ⟨lb,lo,none⟩,ln,lc,ls,sa,sn,sc,ss⟩ k i x y _ (st.own.below vv).row HX.out HYI.out HI.out).mono ?_;rintro e wz ⟨rfl,hbz⟩;have vv:=zc vv hbz;obtain ⟨x0,x1,x2⟩:=zd (za st.box vv);rw [HSV.out];(go_wp2_with fail);refine hK.out _ _ (trivial) (fun hHeld => ?_);clear hK K;(try simp only [Act.put,lA,lB,lC]);refine kK 11 q340 ?_;refine tR [4,12] ?_;refine AllReadyH.cons (o:=q337) rfl (fun K hK => ?_) ?_
        ·go_simp;refine hK.out _ _ (trivial) (fun hHeld => ?_);clear hK K;(try simp only [Act.put,lA,lB,lC]);refine kR 12 q341 (fun K hK => ?_);go_simp
         first
         | refine zy (K:=K _) (fun wx kY hbx => ?_)
         | refine zq (K:=K _) (fun wx kY hbx => ?_)
         have vv:=zc vv hbx;obtain ⟨x0,x1,x2⟩:=zd (za st.box vv);clear hbx;refine hK.out _ _ (trivial) (fun hHeld => ?_);clear hK K;(try simp only [Act.put,lA,lB,lC]);refine kR 13 q342 (fun K hK => ?_);have gn1:GRow sayF wx (some ⟨_,0,none⟩) 1 1 [(⟨(k:Int),false,SV⟩:SY)]:=zB (F:=sayF) (zaP sayF (base:=0) (l:=[(⟨(k:Int),false,SV⟩:SY)]) kY rfl (Nat.zero_le _) (by simp));refine zi (F:=sayF) rfl _ _ 29 90 rfl base Tryz.underlying29 zV rfl (by decide) _ sn ss rfl (zh st.own.s vv) _ 1 1 _ rfl gn1 (by omega) (Nat.le_trans st.size vv.size) ?_;intro aL cL wL how _ hgr hbL;obtain ⟨kX,stN,hBN⟩:=st.pushS (s:=(⟨(k:Int),false,SV⟩:SY)) vv hgr how;obtain ⟨x0,x1,x2⟩:=zd kX;have fz:=zf kX 2;refine hK.out _ _ (trivial) (fun hHeld => ?_);clear hK K;(try simp only [Act.put,lA,lB,lC]);refine kK 14 q343 ?_;refine kK 15 q344 ?_;refine kR 16 q345 (fun K hK => ?_);go_simp;refine hK.out _ _ (trivial) (fun hHeld => ?_);clear hK K;(try simp only [Act.put,lA,lB,lC]);refine wpAnyH_done (by kernel_rfl) ?_ _;have HST:=hide stN;have HBN:=hide (hB.trans hBN);obtain ⟨y0,y1,y2⟩:=zd stN.box;obtain ⟨x',lb',lo',hx',hla',a0,a1,a2,a3⟩:=zaF stN.own.row.l k hlt;dsimp only at hx' hla' y0 y1 y2;rw [HX.out] at hx';cases hx';cases hla';clear hHeld kX how hgr hbL x0 x1 x2 fz kY gn1 vv stN hBN;go_wp2
         go_roundw
         case rel=>exact ⟨k+1,aL,sn+1,cL,by omega,by go_num,by rw [HS.out]; exact HST.out,HBN.out⟩
         case measure=>simp [intOf]; omega
        refine AllReadyH.cons (o:=q341) rfl (fun K hK => ?_) ?_
        ·go_simp
         first
         | refine zy (K:=K _) (fun wx kY hbx => ?_)
         | refine zq (K:=K _) (fun wx kY hbx => ?_)
         have vv:=zc vv hbx;obtain ⟨x0,x1,x2⟩:=zd (za st.box vv);clear hbx;refine hK.out _ _ (trivial) (fun hHeld => ?_);clear hK K;(try simp only [Act.put,lA,lB,lC]);refine kR 4 q337 (fun K hK => ?_);go_simp;refine hK.out _ _ (trivial) (fun hHeld => ?_);clear hK K;(try simp only [Act.put,lA,lB,lC]);refine kR 13 q342 (fun K hK => ?_);have gn1:GRow sayF wx (some ⟨_,0,none⟩) 1 1 [(⟨(k:Int),false,SV⟩:SY)]:=zB (F:=sayF) (zaP sayF (base:=0) (l:=[(⟨(k:Int),false,SV⟩:SY)]) kY rfl (Nat.zero_le _) (by simp));refine zi (F:=sayF) rfl _ _ 29 90 rfl base Tryz.underlying29 zV rfl (by decide) _ sn ss rfl (zh st.own.s vv) _ 1 1 _ rfl gn1 (by omega) (Nat.le_trans st.size vv.size) ?_;intro aL cL wL how _ hgr hbL;obtain ⟨kX,stN,hBN⟩:=st.pushS (s:=(⟨(k:Int),false,SV⟩:SY)) vv hgr how;obtain ⟨x0,x1,x2⟩:=zd kX;have fz:=zf kX 2;refine hK.out _ _ (trivial) (fun hHeld => ?_);clear hK K;(try simp only [Act.put,lA,lB,lC]);refine kK 14 q343 ?_;refine kK 15 q344 ?_;refine kR 16 q345 (fun K hK => ?_);go_simp;refine hK.out _ _ (trivial) (fun hHeld => ?_);clear hK K;(try simp only [Act.put,lA,lB,lC]);refine wpAnyH_done (by kernel_rfl) ?_ _;have HST:=hide stN;have HBN:=hide (hB.trans hBN);obtain ⟨y0,y1,y2⟩:=zd stN.box;obtain ⟨x',lb',lo',hx',hla',a0,a1,a2,a3⟩:=zaF stN.own.row.l k hlt;dsimp only at hx' hla' y0 y1 y2;rw [HX.out] at hx';cases hx';cases hla';clear hHeld kX how hgr hbL x0 x1 x2 fz kY gn1 vv stN hBN;go_wp2
         go_roundw
         case rel=>exact ⟨k+1,aL,sn+1,cL,by omega,by go_num,by rw [HS.out]; exact HST.out,HBN.out⟩
         case measure=>simp [intOf]; omega
        exact AllReadyH.nil
       exact AllReadyH.nil
      exact AllReadyH.nil
     ·have e1:(x.a == b)=false:=by simpa using hab
      by_cases hbb:x.b=b
      ·obtain ⟨i,y,hi,hy⟩:=zaJ hpb;have HS:Hid (sayTo (bs.map BV.B) ls b ss0 (k+1)=ss++[⟨(k:Int),true,sayV y.B.id y.B.ports x.q⟩]):=hide (by rw [hnx,one_b hU (by omega) hx hab hbb,hi,zdu hy]);have HI:=hide hi;have HYI:=hide hy;have e2:(x.b == b)=true:=by simpa using hbb
       generalize hSV:sayV y.B.id y.B.ports x.q=SV at *;have HSV:Hid (sayV y.B.id y.B.ports x.q=SV):=hide hSV;clear hpa hpb hx hy hi hnx hab hnab hSV hbb;(go_upto_region 7 with fail);have vv:Below wr.heap.size wr wr.drew:=zp (Below.refl _ _);obtain ⟨x0,x1,x2⟩:=zd (za st.box vv);clear a0 a1 a2 a3 hU;refine wp_region_held_drew (S:=(fun _=>True)) (by kernel_rfl) (trivial) (fun hHeld => ?_);refine kK 0 ⟨some 64,.move (.tmp 0),109,"l14_step.go:33",#[],none⟩ ?_;refine kK 1 ⟨some 65,.move (.tmp 0),109,"l14_step.go:33",#[],none⟩ ?_;refine kK 2 ⟨some 66,.nilCheck (.tmp 65),0,"l14_step.go:33",#[⟨1,.data⟩],none⟩ ?_;refine kK 3 ⟨some 67,.fieldAddr 31 (.tmp 66) 2,0,"l14_step.go:33",#[⟨2,.data⟩],none⟩ ?_;refine kK 5 ⟨some 69,.move (.tmp 4),3,"l14_step.go:33",#[],none⟩ ?_;refine kK 6 ⟨some 70,.move (.tmp 0),109,"l14_step.go:33",#[],none⟩ ?_;refine kK 7 ⟨some 71,.nilCheck (.tmp 70),0,"l14_step.go:33",#[⟨6,.data⟩],none⟩ ?_;refine kK 9 ⟨some 73,.move (.tmp 4),3,"l14_step.go:33",#[],none⟩ ?_;refine tR [4,8] ?_;refine AllReadyH.cons (o:=q346) rfl (fun K hK => ?_) ?_
       ·go_simp;refine hK.out _ _ (trivial) (fun hHeld => ?_);clear hK K;(try simp only [Act.put,lA,lB,lC]);refine kR 8 q347 (fun K hK => ?_);go_simp;refine hK.out _ _ (trivial) (fun hHeld => ?_);clear hK K;(try simp only [Act.put,lA,lB,lC]);refine kR 10 q348 (fun K hK => ?_);go_simp;refine (zdI ⟨ba,bn,bc,bs,some ⟨lb,lo,none⟩,ln,lc,ls,sa,sn,sc,ss⟩ k i x y _ (st.own.below vv).row HX.out HYI.out HI.out).mono ?_;rintro e wz ⟨rfl,hbz⟩;have vv:=zc vv hbz;obtain ⟨x0,x1,x2⟩:=zd (za st.box vv);rw [HSV.out];(go_wp2_with fail);refine hK.out _ _ (trivial) (fun hHeld => ?_);clear hK K;(try simp only [Act.put,lA,lB,lC]);refine kK 11 q349 ?_;refine kR 12 q350 (fun K hK => ?_);go_simp
        first
        | refine zy (K:=K _) (fun wx kY hbx => ?_)
        | refine zq (K:=K _) (fun wx kY hbx => ?_)
        have vv:=zc vv hbx;obtain ⟨x0,x1,x2⟩:=zd (za st.box vv);clear hbx;refine hK.out _ _ (trivial) (fun hHeld => ?_);clear hK K;(try simp only [Act.put,lA,lB,lC]);refine kR 13 q351 (fun K hK => ?_);have gn1:GRow sayF wx (some ⟨_,0,none⟩) 1 1 [(⟨(k:Int),true,SV⟩:SY)]:=zB (F:=sayF) (zaP sayF (base:=0) (l:=[(⟨(k:Int),true,SV⟩:SY)]) kY rfl (Nat.zero_le _) (by simp));refine zi (F:=sayF) rfl _ _ 29 90 rfl base Tryz.underlying29 zV rfl (by decide) _ sn ss rfl (zh st.own.s vv) _ 1 1 _ rfl gn1 (by omega) (Nat.le_trans st.size vv.size) ?_;intro aL cL wL how _ hgr hbL;obtain ⟨kX,stN,hBN⟩:=st.pushS (s:=(⟨(k:Int),true,SV⟩:SY)) vv hgr how;obtain ⟨x0,x1,x2⟩:=zd kX;have fz:=zf kX 2;refine hK.out _ _ (trivial) (fun hHeld => ?_);clear hK K;(try simp only [Act.put,lA,lB,lC]);refine kK 14 q352 ?_;refine kK 15 q353 ?_;refine kR 16 q354 (fun K hK => ?_);go_simp;refine hK.out _ _ (trivial) (fun hHeld => ?_);clear hK K;(try simp only [Act.put,lA,lB,lC]);refine wpAnyH_done (by kernel_rfl) ?_ _;have HST:=hide stN;have HBN:=hide (hB.trans hBN);clear hHeld kX how hgr hbL x0 x1 x2 fz kY gn1 vv stN hBN;go_wp2
        go_roundw
        case rel=>exact ⟨k+1,aL,sn+1,cL,by omega,by go_num,by rw [HS.out]; exact HST.out,HBN.out⟩
        case measure=>simp [intOf]; omega
       refine AllReadyH.cons (o:=q347) rfl (fun K hK => ?_) ?_
       ·go_simp;refine hK.out _ _ (trivial) (fun hHeld => ?_);clear hK K;(try simp only [Act.put,lA,lB,lC]);refine tR [4,10] ?_;refine AllReadyH.cons (o:=q346) rfl (fun K hK => ?_) ?_
        ·go_simp;refine hK.out _ _ (trivial) (fun hHeld => ?_);clear hK K;(try simp only [Act.put,lA,lB,lC]);refine kR 10 q348 (fun K hK => ?_);go_simp;refine (zdI ⟨ba,bn,bc,bs,some ⟨lb,lo,none⟩,ln,lc,ls,sa,sn,sc,ss⟩ k i x y _ (st.own.below vv).row HX.out HYI.out HI.out).mono ?_;rintro e wz ⟨rfl,hbz⟩;have vv:=zc vv hbz;obtain ⟨x0,x1,x2⟩:=zd (za st.box vv);rw [HSV.out];(go_wp2_with fail);refine hK.out _ _ (trivial) (fun hHeld => ?_);clear hK K;(try simp only [Act.put,lA,lB,lC]);refine kK 11 q349 ?_;refine kR 12 q350 (fun K hK => ?_);go_simp
         first
         | refine zy (K:=K _) (fun wx kY hbx => ?_)
         | refine zq (K:=K _) (fun wx kY hbx => ?_)
         have vv:=zc vv hbx;obtain ⟨x0,x1,x2⟩:=zd (za st.box vv);clear hbx;refine hK.out _ _ (trivial) (fun hHeld => ?_);clear hK K;(try simp only [Act.put,lA,lB,lC]);refine kR 13 q351 (fun K hK => ?_);have gn1:GRow sayF wx (some ⟨_,0,none⟩) 1 1 [(⟨(k:Int),true,SV⟩:SY)]:=zB (F:=sayF) (zaP sayF (base:=0) (l:=[(⟨(k:Int),true,SV⟩:SY)]) kY rfl (Nat.zero_le _) (by simp));refine zi (F:=sayF) rfl _ _ 29 90 rfl base Tryz.underlying29 zV rfl (by decide) _ sn ss rfl (zh st.own.s vv) _ 1 1 _ rfl gn1 (by omega) (Nat.le_trans st.size vv.size) ?_;intro aL cL wL how _ hgr hbL;obtain ⟨kX,stN,hBN⟩:=st.pushS (s:=(⟨(k:Int),true,SV⟩:SY)) vv hgr how;obtain ⟨x0,x1,x2⟩:=zd kX;have fz:=zf kX 2;refine hK.out _ _ (trivial) (fun hHeld => ?_);clear hK K;(try simp only [Act.put,lA,lB,lC]);refine kK 14 q352 ?_;refine kK 15 q353 ?_;refine kR 16 q354 (fun K hK => ?_);go_simp;refine hK.out _ _ (trivial) (fun hHeld => ?_);clear hK K;(try simp only [Act.put,lA,lB,lC]);refine wpAnyH_done (by kernel_rfl) ?_ _;have HST:=hide stN;have HBN:=hide (hB.trans hBN);clear hHeld kX how hgr hbL x0 x1 x2 fz kY gn1 vv stN hBN;go_wp2
         go_roundw
         case rel=>exact ⟨k+1,aL,sn+1,cL,by omega,by go_num,by rw [HS.out]; exact HST.out,HBN.out⟩
         case measure=>simp [intOf]; omega
        refine AllReadyH.cons (o:=q348) rfl (fun K hK => ?_) ?_
        ·go_simp;refine (zdI ⟨ba,bn,bc,bs,some ⟨lb,lo,none⟩,ln,lc,ls,sa,sn,sc,ss⟩ k i x y _ (st.own.below vv).row HX.out HYI.out HI.out).mono ?_;rintro e wz ⟨rfl,hbz⟩;have vv:=zc vv hbz;obtain ⟨x0,x1,x2⟩:=zd (za st.box vv);rw [HSV.out];(go_wp2_with fail);refine hK.out _ _ (trivial) (fun hHeld => ?_);clear hK K;(try simp only [Act.put,lA,lB,lC]);refine kK 11 q349 ?_;refine tR [4,12] ?_;refine AllReadyH.cons (o:=q346) rfl (fun K hK => ?_) ?_
         ·go_simp;refine hK.out _ _ (trivial) (fun hHeld => ?_);clear hK K;(try simp only [Act.put,lA,lB,lC]);refine kR 12 q350 (fun K hK => ?_);go_simp
          first
          | refine zy (K:=K _) (fun wx kY hbx => ?_)
          | refine zq (K:=K _) (fun wx kY hbx => ?_)
          have vv:=zc vv hbx;obtain ⟨x0,x1,x2⟩:=zd (za st.box vv);clear hbx;refine hK.out _ _ (trivial) (fun hHeld => ?_);clear hK K;(try simp only [Act.put,lA,lB,lC]);refine kR 13 q351 (fun K hK => ?_);have gn1:GRow sayF wx (some ⟨_,0,none⟩) 1 1 [(⟨(k:Int),true,SV⟩:SY)]:=zB (F:=sayF) (zaP sayF (base:=0) (l:=[(⟨(k:Int),true,SV⟩:SY)]) kY rfl (Nat.zero_le _) (by simp));refine zi (F:=sayF) rfl _ _ 29 90 rfl base Tryz.underlying29 zV rfl (by decide) _ sn ss rfl (zh st.own.s vv) _ 1 1 _ rfl gn1 (by omega) (Nat.le_trans st.size vv.size) ?_;intro aL cL wL how _ hgr hbL;obtain ⟨kX,stN,hBN⟩:=st.pushS (s:=(⟨(k:Int),true,SV⟩:SY)) vv hgr how;obtain ⟨x0,x1,x2⟩:=zd kX;have fz:=zf kX 2;refine hK.out _ _ (trivial) (fun hHeld => ?_);clear hK K;(try simp only [Act.put,lA,lB,lC]);refine kK 14 q352 ?_;refine kK 15 q353 ?_;refine kR 16 q354 (fun K hK => ?_);go_simp;refine hK.out _ _ (trivial) (fun hHeld => ?_);clear hK K;(try simp only [Act.put,lA,lB,lC]);refine wpAnyH_done (by kernel_rfl) ?_ _;have HST:=hide stN;have HBN:=hide (hB.trans hBN);clear hHeld kX how hgr hbL x0 x1 x2 fz kY gn1 vv stN hBN;go_wp2
          go_roundw
          case rel=>exact ⟨k+1,aL,sn+1,cL,by omega,by go_num,by rw [HS.out]; exact HST.out,HBN.out⟩
          case measure=>simp [intOf]; omega
         refine AllReadyH.cons (o:=q350) rfl (fun K hK => ?_) ?_
         ·go_simp
          first
          | refine zy (K:=K _) (fun wx kY hbx => ?_)
          | refine zq (K:=K _) (fun wx kY hbx => ?_)
          have vv:=zc vv hbx;obtain ⟨x0,x1,x2⟩:=zd (za st.box vv);clear hbx;refine hK.out _ _ (trivial) (fun hHeld => ?_);clear hK K;(try simp only [Act.put,lA,lB,lC]);refine kR 4 q346 (fun K hK => ?_);go_simp;refine hK.out _ _ (trivial) (fun hHeld => ?_);clear hK K;(try simp only [Act.put,lA,lB,lC]);refine kR 13 q351 (fun K hK => ?_);have gn1:GRow sayF wx (some ⟨_,0,none⟩) 1 1 [(⟨(k:Int),true,SV⟩:SY)]:=zB (F:=sayF) (zaP sayF (base:=0) (l:=[(⟨(k:Int),true,SV⟩:SY)]) kY rfl (Nat.zero_le _) (by simp));refine zi (F:=sayF) rfl _ _ 29 90 rfl base Tryz.underlying29 zV rfl (by decide) _ sn ss rfl (zh st.own.s vv) _ 1 1 _ rfl gn1 (by omega) (Nat.le_trans st.size vv.size) ?_;intro aL cL wL how _ hgr hbL;obtain ⟨kX,stN,hBN⟩:=st.pushS (s:=(⟨(k:Int),true,SV⟩:SY)) vv hgr how;obtain ⟨x0,x1,x2⟩:=zd kX;have fz:=zf kX 2;refine hK.out _ _ (trivial) (fun hHeld => ?_);clear hK K;(try simp only [Act.put,lA,lB,lC]);refine kK 14 q352 ?_;refine kK 15 q353 ?_;refine kR 16 q354 (fun K hK => ?_);go_simp;refine hK.out _ _ (trivial) (fun hHeld => ?_);clear hK K;(try simp only [Act.put,lA,lB,lC]);refine wpAnyH_done (by kernel_rfl) ?_ _;have HST:=hide stN;have HBN:=hide (hB.trans hBN);clear hHeld kX how hgr hbL x0 x1 x2 fz kY gn1 vv stN hBN;go_wp2
          go_roundw
          case rel=>exact ⟨k+1,aL,sn+1,cL,by omega,by go_num,by rw [HS.out]; exact HST.out,HBN.out⟩
          case measure=>simp [intOf]; omega
         exact AllReadyH.nil
        exact AllReadyH.nil
       exact AllReadyH.nil
      ·have e2:(x.b == b)=false:=by simpa using hbb
       have HS:Hid (sayTo (bs.map BV.B) ls b ss0 (k+1)=ss):=hide (by rw [hnx,zhp hx hab hbb]);clear hpa hpb hx hnx hab hnab hbb hU;have HST:=hide st;have HBN:=hide hB;clear st hB;go_wp2
       go_roundw
       case rel=>exact ⟨k+1,sa,sn,sc,by omega,by go_num,by rw [HS.out]; exact HST.out,HBN.out⟩
       case measure=>simp [intOf]; omega
    ·have g1:(40:Int)≤(sn:Int):=by omega
     have HS:Hid (sayTo (bs.map BV.B) ls b ss0 (k+1)=ss):=hide (by rw [hnx,zjw (by omega)]);clear hU hnx;have HST:=hide st;have HBN:=hide hB;clear st hB;go_wp2
     go_roundw
     case rel=>exact ⟨k+1,sa,sn,sc,by omega,by go_num,by rw [HS.out]; exact HST.out,HBN.out⟩
     case measure=>simp [intOf]; omega
  ·have hkn:k=ln:=by omega
   subst hkn;have HST:=hide st;have HB:=hide hB;clear st hB;go_wp2;refine bodyPost_end (v:=.tuple #[]) (by simp [results,Tryz.results69,go_sem, *]) rfl ?_;exact ⟨rfl,sa,sn,sc,HST.out,HB.out⟩

end Go.Proofs.YtkoekkjfcaiagaaGreat
