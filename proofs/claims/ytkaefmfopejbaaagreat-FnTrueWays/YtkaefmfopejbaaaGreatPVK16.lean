/-
  Packed: StepSays Agr UpA SayOn JoinS NetMark NetMarkN NetMarkM.
-/
import Derived.Test.YtkaefmfopejbaaaGreatPVK15
namespace Go.Proofs.YtkaefmfopejbaaaGreat
set_option maxRecDepth 100000
set_option maxHeartbeats 16000000
open Go.RowKit

abbrev q234:Oper:=⟨some 42,.load 26 (.tmp 41),26,"l14_step.go:30",#[⟨3,.data⟩],none⟩
abbrev q235:Oper:=⟨some 46,.load 28 (.tmp 45),28,"l14_step.go:30",#[⟨7,.data⟩],none⟩
abbrev q236:Oper:=⟨some 48,.call ⟨.value (.func 56),#[.tmp 46,.tmp 47,.const (.bool false)],#[28,3,4]⟩,51,"l14_step.go:30",#[⟨8,.data⟩,⟨9,.data⟩],none⟩
abbrev q237:Oper:=⟨some 49,.build 99 #[(0,.tmp 43),(2,.tmp 48)],99,"l14_step.go:30",#[⟨5,.data⟩,⟨10,.data⟩],none⟩
abbrev q238:Oper:=⟨some 50,.buildSlice 26 1 #[(0,.tmp 49)],26,"l14_step.go:30",#[⟨11,.data⟩],none⟩
abbrev q239:Oper:=⟨some 51,.call ⟨.builtin .append,#[.tmp 42,.tmp 50],#[26,26]⟩,26,"l14_step.go:30",#[⟨4,.data⟩,⟨12,.data⟩,⟨10,.chain⟩],none⟩
abbrev q240:Oper:=⟨some 52,.nilCheck (.tmp 38),0,"l14_step.go:30",#[⟨0,.data⟩,⟨0,.phase⟩,⟨1,.phase⟩,⟨2,.phase⟩,⟨3,.phase⟩,⟨4,.phase⟩,⟨5,.phase⟩,⟨6,.phase⟩,⟨7,.phase⟩,⟨8,.phase⟩,⟨9,.phase⟩,⟨10,.phase⟩,⟨11,.phase⟩,⟨12,.phase⟩,⟨13,.phase⟩],none⟩
abbrev q241:Oper:=⟨some 53,.fieldAddr 28 (.tmp 52) 2,0,"l14_step.go:30",#[⟨14,.data⟩,⟨0,.phase⟩,⟨1,.phase⟩,⟨2,.phase⟩,⟨3,.phase⟩,⟨4,.phase⟩,⟨5,.phase⟩,⟨6,.phase⟩,⟨7,.phase⟩,⟨8,.phase⟩,⟨9,.phase⟩,⟨10,.phase⟩,⟨11,.phase⟩,⟨12,.phase⟩,⟨13,.phase⟩],none⟩
abbrev q242:Oper:=⟨none,.store 26 (.tmp 53) (.tmp 51),0,"l14_step.go:30",#[⟨15,.data⟩,⟨13,.data⟩,⟨13,.chain⟩,⟨0,.phase⟩,⟨1,.phase⟩,⟨2,.phase⟩,⟨3,.phase⟩,⟨4,.phase⟩,⟨5,.phase⟩,⟨6,.phase⟩,⟨7,.phase⟩,⟨8,.phase⟩,⟨9,.phase⟩,⟨10,.phase⟩,⟨11,.phase⟩,⟨12,.phase⟩,⟨13,.phase⟩],none⟩
abbrev q243:Oper:=⟨some 68,.load 26 (.tmp 67),26,"l14_step.go:33",#[⟨3,.data⟩],none⟩
abbrev q244:Oper:=⟨some 72,.load 28 (.tmp 71),28,"l14_step.go:33",#[⟨7,.data⟩],none⟩
abbrev q245:Oper:=⟨some 74,.call ⟨.value (.func 56),#[.tmp 72,.tmp 73,.const (.bool true)],#[28,3,4]⟩,51,"l14_step.go:33",#[⟨8,.data⟩,⟨9,.data⟩],none⟩
abbrev q246:Oper:=⟨some 75,.build 99 #[(0,.tmp 69),(1,.const (.bool true)),(2,.tmp 74)],99,"l14_step.go:33",#[⟨5,.data⟩,⟨10,.data⟩],none⟩
abbrev q247:Oper:=⟨some 76,.buildSlice 26 1 #[(0,.tmp 75)],26,"l14_step.go:33",#[⟨11,.data⟩],none⟩
abbrev q248:Oper:=⟨some 77,.call ⟨.builtin .append,#[.tmp 68,.tmp 76],#[26,26]⟩,26,"l14_step.go:33",#[⟨4,.data⟩,⟨12,.data⟩,⟨10,.chain⟩],none⟩
abbrev q249:Oper:=⟨some 78,.nilCheck (.tmp 64),0,"l14_step.go:33",#[⟨0,.data⟩,⟨0,.phase⟩,⟨1,.phase⟩,⟨2,.phase⟩,⟨3,.phase⟩,⟨4,.phase⟩,⟨5,.phase⟩,⟨6,.phase⟩,⟨7,.phase⟩,⟨8,.phase⟩,⟨9,.phase⟩,⟨10,.phase⟩,⟨11,.phase⟩,⟨12,.phase⟩,⟨13,.phase⟩],none⟩
abbrev q250:Oper:=⟨some 79,.fieldAddr 28 (.tmp 78) 2,0,"l14_step.go:33",#[⟨14,.data⟩,⟨0,.phase⟩,⟨1,.phase⟩,⟨2,.phase⟩,⟨3,.phase⟩,⟨4,.phase⟩,⟨5,.phase⟩,⟨6,.phase⟩,⟨7,.phase⟩,⟨8,.phase⟩,⟨9,.phase⟩,⟨10,.phase⟩,⟨11,.phase⟩,⟨12,.phase⟩,⟨13,.phase⟩],none⟩
abbrev q251:Oper:=⟨none,.store 26 (.tmp 79) (.tmp 77),0,"l14_step.go:33",#[⟨15,.data⟩,⟨13,.data⟩,⟨13,.chain⟩,⟨0,.phase⟩,⟨1,.phase⟩,⟨2,.phase⟩,⟨3,.phase⟩,⟨4,.phase⟩,⟨5,.phase⟩,⟨6,.phase⟩,⟨7,.phase⟩,⟨8,.phase⟩,⟨9,.phase⟩,⟨10,.phase⟩,⟨11,.phase⟩,⟨12,.phase⟩,⟨13,.phase⟩],none⟩

theorem BOs.typed {w w':World} {base:Nat} {ao:Option Addr} {n cap:Nat} {l:List BV} (h:BOs w base ao n cap l) {base2 n2:Nat} {v2:Value} {xs2:List Value} (h2:w.ownsRow base2 99 7 v2 n2 xs2) (hg:w.grownBy w' v2.ownBlock):BOs w' base ao n cap l :=
 ⟨zu h.row h2 (by decide) hg,fun x hx=>⟨zu (h.item x hx).ports h2 (by decide) hg,zu (h.item x hx).f h2 (by decide) hg,⟨zu (h.item x hx).v.rows h2 (by decide) hg,zu (h.item x hx).v.own h2 (by decide) hg,(h.item x hx).v.i64⟩⟩,h.apart⟩

theorem NbSt.pushS {w w1 w2:World} {base X:Nat} {M:NV} {s:SY} (h:NbSt w base X M) (hb:Below w.heap.size w w1) (hg:w1.grownBy w2 (Value.slice M.sa M.sn M.sc).ownBlock) {ao':Option Addr} {cap':Nat} (hr:w2.ownsRow base 99 7 (.slice ao' (M.sn+1) cap') (M.sn+1) (sayF.all (M.ss++[s]))) :
  w2.heap[X]? = some (.cells #[.slice M.ba M.bn M.bc,.slice M.la M.ln M.lc,.slice M.sa M.sn M.sc] 28)∧NbSt (w2.setCell ⟨X,2,none⟩ (.slice ao' (M.sn+1) cap')) base X { M with sa:=ao',sn:=M.sn+1,sc:=cap',ss:=M.ss++[s] }∧Below base w (w2.setCell ⟨X,2,none⟩ (.slice ao' (M.sn+1) cap')):=by
 have h1:=h.later hb;have hrw:=h1.own.s;have k1:=ze h1.box hg (fun k hk=>zt hrw h1.box (by decide) k hk);have ob:=h1.own.b.typed hrw hg;have ol:=zu h1.own.l hrw (by decide) hg;have hgx:w2.grownBy (w2.setCell ⟨X,2,none⟩ (.slice ao' (M.sn+1) cap')) (some X):=zj 2 _;have nb:=NOwn.boxed (M:={ M with sa:=ao',sn:=M.sn+1,sc:=cap',ss:=M.ss++[s] }) ⟨ob,ol,hr⟩ k1 hgx;have b1:Below base w w1:=hb.mono h.size;have b2:=b1.grown hg (Nat.le_trans h.size hb.size) (by intro k hk; exact (hrw.lt k hk).1);have hle:=h.le;refine ⟨k1,⟨?_,nb,h.le⟩,b2.grown hgx (by have:=zdg k1; omega) (by intro k e; cases e; omega)⟩
 have:=zD (j:=2) k1 (.slice ao' (M.sn+1) cap')
 simpa using this

def sayAt (bs:List BR) (b p:Int):VD:=match bs[b.toNat]? with
 | some B=>sayV B.id B.ports p
 | none=>⟨0,0,0,0,0⟩
def za2 (bs:List BR) (ls:List LK) (b:Int) (ss:List SY) (k:Nat):List SY:=match ls[k]? with
 | some x=>if zQ bs ls (k:Int)=true∧ss.length < 40 then (if x.a=b then ss++[⟨(k:Int),false,sayAt bs x.a x.p⟩] else if x.b=b then ss++[⟨(k:Int),true,sayAt bs x.b x.q⟩] else ss) else ss
 | none=>ss
def sayTo (bs:List BR) (ls:List LK) (b:Int) (ss:List SY):Nat→List SY
 | 0=>ss
 | k+1=>za2 bs ls b (sayTo bs ls b ss k) k

theorem zh7 {bs:List BR} {ls:List LK} {b:Int} {ss:List SY} {k:Nat} (h:zQ bs ls (k:Int)=false):za2 bs ls b ss k=ss:=by unfold za2; split <;> simp [h]
theorem zh9 {bs:List BR} {ls:List LK} {b:Int} {ss:List SY} {k:Nat} (h:¬ss.length < 40):za2 bs ls b ss k=ss:=by unfold za2; split <;> simp [h]
theorem one_a {bs:List BR} {ls:List LK} {b:Int} {ss:List SY} {k:Nat} {x:LK} (hu:zQ bs ls (k:Int)=true) (h:ss.length < 40) (hx:ls[k]? = some x) (ha:x.a=b):za2 bs ls b ss k=ss++[⟨(k:Int),false,sayAt bs x.a x.p⟩]:=by unfold za2; rw [hx]; simp [hu,h,ha]
theorem one_b {bs:List BR} {ls:List LK} {b:Int} {ss:List SY} {k:Nat} {x:LK} (hu:zQ bs ls (k:Int)=true) (h:ss.length < 40) (hx:ls[k]? = some x) (ha:x.a≠b) (hb:x.b=b):za2 bs ls b ss k=ss++[⟨(k:Int),true,sayAt bs x.b x.q⟩]:=by unfold za2; rw [hx]; simp [hu,h,ha,hb]
theorem zh8 {bs:List BR} {ls:List LK} {b:Int} {ss:List SY} {k:Nat} {x:LK} (hx:ls[k]? = some x) (ha:x.a≠b) (hb:x.b≠b):za2 bs ls b ss k=ss:=by unfold za2; rw [hx]; simp [ha,hb]
theorem ziW (bs:List BR) (ls:List LK) (b:Int) (ss:List SY) (k:Nat) (h:ss.length≤40):(za2 bs ls b ss k).length≤40:=by
 unfold za2
 split
 ·split
  ·split
   ·simp; omega
   ·split
    ·simp; omega
    ·exact h
  ·exact h
 ·exact h
theorem ziF (bs:List BR) (ls:List LK) (b:Int) (ss:List SY) (h:ss.length≤40):∀k,(sayTo bs ls b ss k).length≤40
 | 0=>h
 | k+1=>ziW _ _ _ _ _ (ziF bs ls b ss h k)

theorem zaY {bs:List BV} {b p:Int} {u:PT} (h:zM (bs.map BV.B) b p=some u):∃(i:Nat) (y:BV),b=(i:Int)∧bs[i]? = some y:=by
 unfold zM at h
 split at h
 ·rename_i hb
  cases hy:bs[b.toNat]? with
  | none=>rw [List.getElem?_map,hy] at h; cases h
  | some y=>exact ⟨b.toNat,y,by omega,hy⟩
 ·cases h
theorem ze3 {bs:List BV} {i:Nat} {y:BV} (h:bs[i]? = some y) (p:Int):sayAt (bs.map BV.B) (i:Int) p=sayV y.B.id y.B.ports p:=by
 unfold sayAt;rw [Int.toNat_natCast,List.getElem?_map,h]
 rfl

theorem zik (M:NV) (base X:Nat) (b:Int) (w:World) (h:NbSt w base X M) (he:∀x∈M.ls,zb6 M.brs x) (hs:M.ss.length≤40) :
  Calls Tryz.prog 77 #[.pointer (some ⟨X,0,none⟩),.int .i64 b] w fun e w'=>e=.returned (.tuple #[])∧∃(sa:Option Addr) (sn sc:Nat),NbSt w' base X { M with sa:=sa,sn:=sn,sc:=sc,ss:=sayTo M.brs M.ls b M.ss M.ln }∧Below base w w':=by
 obtain ⟨ba,bn,bc,bs,la,ln,lc,ls,sa0,sn0,sc0,ss0⟩:=M;have he:∀x∈ls,zb6 (bs.map BV.B) x:=he;dsimp only at hs
 show Calls Tryz.prog 77 #[.pointer (some ⟨X,0,none⟩),.int .i64 b] w fun e w'=>e=.returned (.tuple #[])∧∃(sa:Option Addr) (sn sc:Nat),NbSt w' base X ⟨ba,bn,bc,bs,la,ln,lc,ls,sa,sn,sc,sayTo (bs.map BV.B) ls b ss0 ln⟩∧Below base w w'
 have hll:ls.length=ln:=h.own.row.l.size;have HE:=hide he;have HS0:=hide hs;have hle:=Nat.le_trans h.own.row.l.le h.own.row.l.top;unfold maxLen at hle;dsimp only at hle;clear he hs;go_enter Tryz.func77,Tryz.ntmps77;go_wp2_with fail
 go_loopw [4] (fun i wr=>∃(k:Nat) (sa:Option Addr) (sn sc:Nat),k≤ln∧i=.int .i64 k∧NbSt wr base X ⟨ba,bn,bc,bs,la,ln,lc,ls,sa,sn,sc,sayTo (bs.map BV.B) ls b ss0 k⟩∧Below base w wr) (fun i _=>ln - (intOf i).toNat)
 case atStart=>exact ⟨0,sa0,sn0,sc0,Nat.zero_le _,rfl,h,Below.refl _ _⟩
 case round =>
  clear h;obtain ⟨k,sa,sn,sc,hk,rfl,st,hB⟩:=hrel;obtain ⟨x0,x1,x2⟩:=zd st.box;dsimp only at x0 x1 x2;by_cases hlt:k < ln
  ·obtain ⟨x,lb,lo,hx,hla,-⟩:=zak st.own.row.l k hlt;dsimp only at hx hla;subst hla;have hsl:(sayTo (bs.map BV.B) ls b ss0 k).length=sn:=st.own.row.s.size;have hsn:sn≤40:=by rw [← hsl]; exact ziF _ _ _ _ HS0.out k
   have HX:=hide hx;have hnx:sayTo (bs.map BV.B) ls b ss0 (k+1)=za2 (bs.map BV.B) ls b (sayTo (bs.map BV.B) ls b ss0 k) k:=rfl;generalize sayTo (bs.map BV.B) ls b ss0 k=ss at *;have i0:(k:Int) < (ln:Int):=by omega
   have i1:(0:Int)≤(k:Int):=by omega
   (go_wp2_with fail);refine (zaW ⟨ba,bn,bc,bs,some ⟨lb,lo,none⟩,ln,lc,ls,sa,sn,sc,ss⟩ (k:Int) _ st.own.row).mono ?_;rintro e wr ⟨rfl,b1⟩;have hB:=hB.trans (b1.mono st.size);have st:=st.later b1;clear b1 x0 x1 x2;generalize hU:zQ _ _ _=U;have hU:zQ (bs.map BV.B) ls (k:Int)=U:=hU;obtain ⟨x0,x1,x2⟩:=zd st.box;dsimp only at x0 x1 x2;cases U
   ·have HS:Hid (sayTo (bs.map BV.B) ls b ss0 (k+1)=ss):=hide (by rw [hnx,zh7 hU]);clear hU hnx;have HST:=hide st;have HBN:=hide hB;clear st hB;go_wp2
    go_roundw
    case rel=>exact ⟨k+1,sa,sn,sc,by omega,by go_num,by rw [HS.out]; exact HST.out,HBN.out⟩
    case measure=>simp [intOf]; omega
   ·by_cases h40:sn < 40
    ·have g1:¬(40:Int)≤(sn:Int):=by omega
     obtain ⟨x',lb',lo',hx',hla',a0,a1,a2,a3⟩:=zak st.own.row.l k hlt;dsimp only at hx' hla';rw [hx] at hx';cases hx';cases hla';obtain ⟨hnab,u,v,hpa,hpb,-⟩:=HE.out x (List.mem_of_getElem? hx);by_cases hab:x.a=b
     ·obtain ⟨i,y,hi,hy⟩:=zaY hpa;have HS:Hid (sayTo (bs.map BV.B) ls b ss0 (k+1)=ss++[⟨(k:Int),false,sayV y.B.id y.B.ports x.p⟩]):=hide (by rw [hnx,one_a hU (by omega) hx hab,hi,ze3 hy]);have HI:=hide hi;have HYI:=hide hy;have hxb:(x.b == b)=false:=by rw [← hab]; simpa using Ne.symm hnab
      have e1:(x.a == b)=true:=by simpa using hab
      generalize hSV:sayV y.B.id y.B.ports x.p=SV at *;have HSV:Hid (sayV y.B.id y.B.ports x.p=SV):=hide hSV;clear hpa hpb hx hy hi hnx hab hnab hSV;(go_upto_region 5 with fail);have vv:Below wr.heap.size wr wr.drew:=zG (Below.refl _ _);obtain ⟨x0,x1,x2⟩:=zd (za st.box vv);clear a0 a1 a2 a3 hU;refine wp_region_held_drew (S:=(fun _=>True)) (by kernel_rfl) (trivial) (fun hHeld => ?_);refine kK 0 ⟨some 38,.move (.tmp 0),139,"l14_step.go:30",#[],none⟩ ?_;refine kK 1 ⟨some 39,.move (.tmp 0),139,"l14_step.go:30",#[],none⟩ ?_;refine kK 2 ⟨some 40,.nilCheck (.tmp 39),0,"l14_step.go:30",#[⟨1,.data⟩],none⟩ ?_;refine kK 3 ⟨some 41,.fieldAddr 28 (.tmp 40) 2,0,"l14_step.go:30",#[⟨2,.data⟩],none⟩ ?_;refine kK 5 ⟨some 43,.move (.tmp 4),3,"l14_step.go:30",#[],none⟩ ?_;refine kK 6 ⟨some 44,.move (.tmp 0),139,"l14_step.go:30",#[],none⟩ ?_;refine kK 7 ⟨some 45,.nilCheck (.tmp 44),0,"l14_step.go:30",#[⟨6,.data⟩],none⟩ ?_;refine kK 9 ⟨some 47,.move (.tmp 4),3,"l14_step.go:30",#[],none⟩ ?_;refine tR [4,8] ?_;refine AllReadyH.cons (o:=q234) rfl (fun K hK => ?_) ?_
      ·go_simp;refine kO hK (trivial) fun hHeld => ?_
       clear hK K;refine kR 8 q235 (fun K hK => ?_);go_simp;refine kO hK (trivial) fun hHeld => ?_
       clear hK K;refine kR 10 q236 (fun K hK => ?_);go_simp;refine (zdy ⟨ba,bn,bc,bs,some ⟨lb,lo,none⟩,ln,lc,ls,sa,sn,sc,ss⟩ k i x y _ (st.own.below vv).row HX.out HYI.out HI.out).mono ?_;rintro e wz ⟨rfl,hbz⟩;have vv:=zc vv hbz;obtain ⟨x0,x1,x2⟩:=zd (za st.box vv);rw [HSV.out];(go_wp2_with fail);refine kO hK (trivial) fun hHeld => ?_
       clear hK K;refine kK 11 q237 ?_;refine kR 12 q238 (fun K hK => ?_);go_simp
       first
       | refine zw (K:=K _) (fun wx kY hbx => ?_)
       | refine zq (K:=K _) (fun wx kY hbx => ?_)
       have vv:=zc vv hbx;obtain ⟨x0,x1,x2⟩:=zd (za st.box vv);clear hbx;refine kO hK (trivial) fun hHeld => ?_
       clear hK K;refine kR 13 q239 (fun K hK => ?_);have gn1:GRow sayF wx (some ⟨_,0,none⟩) 1 1 [(⟨(k:Int),false,SV⟩:SY)]:=zA (F:=sayF) (zaC sayF (base:=0) (l:=[(⟨(k:Int),false,SV⟩:SY)]) kY rfl (Nat.zero_le _) (by simp));refine zh (F:=sayF) rfl _ _ 26 99 rfl base Tryz.underlying26 zP rfl (by decide) _ sn ss rfl (zi st.own.s vv) _ 1 1 _ rfl gn1 (by omega) (Nat.le_trans st.size vv.size) ?_;intro aL cL wL how _ hgr hbL;obtain ⟨kX,stN,hBN⟩:=st.pushS (s:=(⟨(k:Int),false,SV⟩:SY)) vv hgr how;obtain ⟨x0,x1,x2⟩:=zd kX;have fz:=zg kX 2;refine kO hK (trivial) fun hHeld => ?_
       clear hK K;refine kK 14 q240 ?_;refine kK 15 q241 ?_;refine kR 16 q242 (fun K hK => ?_);go_simp;refine kO hK (trivial) fun hHeld => ?_
       clear hK K;refine wpAnyH_done (by kernel_rfl) ?_ _;have HST:=hide stN;have HBN:=hide (hB.trans hBN);obtain ⟨y0,y1,y2⟩:=zd stN.box;obtain ⟨x',lb',lo',hx',hla',a0,a1,a2,a3⟩:=zak stN.own.row.l k hlt;dsimp only at hx' hla' y0 y1 y2;rw [HX.out] at hx';cases hx';cases hla';clear hHeld kX how hgr hbL x0 x1 x2 fz kY gn1 vv stN hBN;go_wp2
       go_roundw
       case rel=>exact ⟨k+1,aL,sn+1,cL,by omega,by go_num,by rw [HS.out]; exact HST.out,HBN.out⟩
       case measure=>simp [intOf]; omega
      refine AllReadyH.cons (o:=q235) rfl (fun K hK => ?_) ?_
      ·go_simp;refine kO hK (trivial) fun hHeld => ?_
       clear hK K;refine tR [4,10] ?_;refine AllReadyH.cons (o:=q234) rfl (fun K hK => ?_) ?_
       ·go_simp;refine kO hK (trivial) fun hHeld => ?_
        clear hK K;refine kR 10 q236 (fun K hK => ?_);go_simp;refine (zdy ⟨ba,bn,bc,bs,some ⟨lb,lo,none⟩,ln,lc,ls,sa,sn,sc,ss⟩ k i x y _ (st.own.below vv).row HX.out HYI.out HI.out).mono ?_;rintro e wz ⟨rfl,hbz⟩;have vv:=zc vv hbz;obtain ⟨x0,x1,x2⟩:=zd (za st.box vv);rw [HSV.out];(go_wp2_with fail);refine kO hK (trivial) fun hHeld => ?_
        clear hK K;refine kK 11 q237 ?_;refine kR 12 q238 (fun K hK => ?_);go_simp
        first
        | refine zw (K:=K _) (fun wx kY hbx => ?_)
        | refine zq (K:=K _) (fun wx kY hbx => ?_)
        have vv:=zc vv hbx;obtain ⟨x0,x1,x2⟩:=zd (za st.box vv);clear hbx;refine kO hK (trivial) fun hHeld => ?_
        clear hK K;refine kR 13 q239 (fun K hK => ?_);have gn1:GRow sayF wx (some ⟨_,0,none⟩) 1 1 [(⟨(k:Int),false,SV⟩:SY)]:=zA (F:=sayF) (zaC sayF (base:=0) (l:=[(⟨(k:Int),false,SV⟩:SY)]) kY rfl (Nat.zero_le _) (by simp));refine zh (F:=sayF) rfl _ _ 26 99 rfl base Tryz.underlying26 zP rfl (by decide) _ sn ss rfl (zi st.own.s vv) _ 1 1 _ rfl gn1 (by omega) (Nat.le_trans st.size vv.size) ?_;intro aL cL wL how _ hgr hbL;obtain ⟨kX,stN,hBN⟩:=st.pushS (s:=(⟨(k:Int),false,SV⟩:SY)) vv hgr how;obtain ⟨x0,x1,x2⟩:=zd kX;have fz:=zg kX 2;refine kO hK (trivial) fun hHeld => ?_
        clear hK K;refine kK 14 q240 ?_;refine kK 15 q241 ?_;refine kR 16 q242 (fun K hK => ?_);go_simp;refine kO hK (trivial) fun hHeld => ?_
        clear hK K;refine wpAnyH_done (by kernel_rfl) ?_ _;have HST:=hide stN;have HBN:=hide (hB.trans hBN);obtain ⟨y0,y1,y2⟩:=zd stN.box;obtain ⟨x',lb',lo',hx',hla',a0,a1,a2,a3⟩:=zak stN.own.row.l k hlt;dsimp only at hx' hla' y0 y1 y2;rw [HX.out] at hx';cases hx';cases hla';clear hHeld kX how hgr hbL x0 x1 x2 fz kY gn1 vv stN hBN;go_wp2
        go_roundw
        case rel=>exact ⟨k+1,aL,sn+1,cL,by omega,by go_num,by rw [HS.out]; exact HST.out,HBN.out⟩
        case measure=>simp [intOf]; omega
       refine AllReadyH.cons (o:=q236) rfl (fun K hK => ?_) ?_
       ·go_simp;refine (zdy ⟨ba,bn,bc,bs,some ⟨lb,lo,none⟩,ln,lc,ls,sa,sn,sc,ss⟩ k i x y _ (st.own.below vv).row HX.out HYI.out HI.out).mono ?_;rintro e wz ⟨rfl,hbz⟩;have vv:=zc vv hbz;obtain ⟨x0,x1,x2⟩:=zd (za st.box vv);rw [HSV.out];(go_wp2_with fail);refine kO hK (trivial) fun hHeld => ?_
        clear hK K;refine kK 11 q237 ?_;refine tR [4,12] ?_;refine AllReadyH.cons (o:=q234) rfl (fun K hK => ?_) ?_
        ·go_simp;refine kO hK (trivial) fun hHeld => ?_
         clear hK K;refine kR 12 q238 (fun K hK => ?_);go_simp
         first
         | refine zw (K:=K _) (fun wx kY hbx => ?_)
         | refine zq (K:=K _) (fun wx kY hbx => ?_)
         have vv:=zc vv hbx;obtain ⟨x0,x1,x2⟩:=zd (za st.box vv);clear hbx;refine kO hK (trivial) fun hHeld => ?_
         clear hK K;refine kR 13 q239 (fun K hK => ?_);have gn1:GRow sayF wx (some ⟨_,0,none⟩) 1 1 [(⟨(k:Int),false,SV⟩:SY)]:=zA (F:=sayF) (zaC sayF (base:=0) (l:=[(⟨(k:Int),false,SV⟩:SY)]) kY rfl (Nat.zero_le _) (by simp));refine zh (F:=sayF) rfl _ _ 26 99 rfl base Tryz.underlying26 zP rfl (by decide) _ sn ss rfl (zi st.own.s vv) _ 1 1 _ rfl gn1 (by omega) (Nat.le_trans st.size vv.size) ?_;intro aL cL wL how _ hgr hbL;obtain ⟨kX,stN,hBN⟩:=st.pushS (s:=(⟨(k:Int),false,SV⟩:SY)) vv hgr how;obtain ⟨x0,x1,x2⟩:=zd kX;have fz:=zg kX 2;refine kO hK (trivial) fun hHeld => ?_
         clear hK K;refine kK 14 q240 ?_;refine kK 15 q241 ?_;refine kR 16 q242 (fun K hK => ?_);go_simp;refine kO hK (trivial) fun hHeld => ?_
         clear hK K;refine wpAnyH_done (by kernel_rfl) ?_ _;have HST:=hide stN;have HBN:=hide (hB.trans hBN);obtain ⟨y0,y1,y2⟩:=zd stN.box;obtain ⟨x',lb',lo',hx',hla',a0,a1,a2,a3⟩:=zak stN.own.row.l k hlt;dsimp only at hx' hla' y0 y1 y2;rw [HX.out] at hx';cases hx';cases hla';clear hHeld kX how hgr hbL x0 x1 x2 fz kY gn1 vv stN hBN;go_wp2
         go_roundw
         case rel=>exact ⟨k+1,aL,sn+1,cL,by omega,by go_num,by rw [HS.out]; exact HST.out,HBN.out⟩
         case measure=>simp [intOf]; omega
        refine AllReadyH.cons (o:=q238) rfl (fun K hK => ?_) ?_
        ·go_simp
         first
         | refine zw (K:=K _) (fun wx kY hbx => ?_)
         | refine zq (K:=K _) (fun wx kY hbx => ?_)
         have vv:=zc vv hbx;obtain ⟨x0,x1,x2⟩:=zd (za st.box vv);clear hbx;refine kO hK (trivial) fun hHeld => ?_
         clear hK K;refine kR 4 q234 (fun K hK => ?_);go_simp;refine kO hK (trivial) fun hHeld => ?_
         clear hK K;refine kR 13 q239 (fun K hK => ?_);have gn1:GRow sayF wx (some ⟨_,0,none⟩) 1 1 [(⟨(k:Int),false,SV⟩:SY)]:=zA (F:=sayF) (zaC sayF (base:=0) (l:=[(⟨(k:Int),false,SV⟩:SY)]) kY rfl (Nat.zero_le _) (by simp));refine zh (F:=sayF) rfl _ _ 26 99 rfl base Tryz.underlying26 zP rfl (by decide) _ sn ss rfl (zi st.own.s vv) _ 1 1 _ rfl gn1 (by omega) (Nat.le_trans st.size vv.size) ?_;intro aL cL wL how _ hgr hbL;obtain ⟨kX,stN,hBN⟩:=st.pushS (s:=(⟨(k:Int),false,SV⟩:SY)) vv hgr how;obtain ⟨x0,x1,x2⟩:=zd kX;have fz:=zg kX 2;refine kO hK (trivial) fun hHeld => ?_
         clear hK K;refine kK 14 q240 ?_;refine kK 15 q241 ?_;refine kR 16 q242 (fun K hK => ?_);go_simp;refine kO hK (trivial) fun hHeld => ?_
         clear hK K;refine wpAnyH_done (by kernel_rfl) ?_ _;have HST:=hide stN;have HBN:=hide (hB.trans hBN);obtain ⟨y0,y1,y2⟩:=zd stN.box;obtain ⟨x',lb',lo',hx',hla',a0,a1,a2,a3⟩:=zak stN.own.row.l k hlt;dsimp only at hx' hla' y0 y1 y2;rw [HX.out] at hx';cases hx';cases hla';clear hHeld kX how hgr hbL x0 x1 x2 fz kY gn1 vv stN hBN;go_wp2
         go_roundw
         case rel=>exact ⟨k+1,aL,sn+1,cL,by omega,by go_num,by rw [HS.out]; exact HST.out,HBN.out⟩
         case measure=>simp [intOf]; omega
        exact AllReadyH.nil
       exact AllReadyH.nil
      exact AllReadyH.nil
     ·have e1:(x.a == b)=false:=by simpa using hab
      by_cases hbb:x.b=b
      ·obtain ⟨i,y,hi,hy⟩:=zaY hpb;have HS:Hid (sayTo (bs.map BV.B) ls b ss0 (k+1)=ss++[⟨(k:Int),true,sayV y.B.id y.B.ports x.q⟩]):=hide (by rw [hnx,one_b hU (by omega) hx hab hbb,hi,ze3 hy]);have HI:=hide hi;have HYI:=hide hy;have e2:(x.b == b)=true:=by simpa using hbb
       generalize hSV:sayV y.B.id y.B.ports x.q=SV at *;have HSV:Hid (sayV y.B.id y.B.ports x.q=SV):=hide hSV;clear hpa hpb hx hy hi hnx hab hnab hSV hbb;(go_upto_region 7 with fail);have vv:Below wr.heap.size wr wr.drew:=zG (Below.refl _ _);obtain ⟨x0,x1,x2⟩:=zd (za st.box vv);clear a0 a1 a2 a3 hU;refine wp_region_held_drew (S:=(fun _=>True)) (by kernel_rfl) (trivial) (fun hHeld => ?_);refine kK 0 ⟨some 64,.move (.tmp 0),139,"l14_step.go:33",#[],none⟩ ?_;refine kK 1 ⟨some 65,.move (.tmp 0),139,"l14_step.go:33",#[],none⟩ ?_;refine kK 2 ⟨some 66,.nilCheck (.tmp 65),0,"l14_step.go:33",#[⟨1,.data⟩],none⟩ ?_;refine kK 3 ⟨some 67,.fieldAddr 28 (.tmp 66) 2,0,"l14_step.go:33",#[⟨2,.data⟩],none⟩ ?_;refine kK 5 ⟨some 69,.move (.tmp 4),3,"l14_step.go:33",#[],none⟩ ?_;refine kK 6 ⟨some 70,.move (.tmp 0),139,"l14_step.go:33",#[],none⟩ ?_;refine kK 7 ⟨some 71,.nilCheck (.tmp 70),0,"l14_step.go:33",#[⟨6,.data⟩],none⟩ ?_;refine kK 9 ⟨some 73,.move (.tmp 4),3,"l14_step.go:33",#[],none⟩ ?_;refine tR [4,8] ?_;refine AllReadyH.cons (o:=q243) rfl (fun K hK => ?_) ?_
       ·go_simp;refine kO hK (trivial) fun hHeld => ?_
        clear hK K;refine kR 8 q244 (fun K hK => ?_);go_simp;refine kO hK (trivial) fun hHeld => ?_
        clear hK K;refine kR 10 q245 (fun K hK => ?_);go_simp;refine (zcS ⟨ba,bn,bc,bs,some ⟨lb,lo,none⟩,ln,lc,ls,sa,sn,sc,ss⟩ k i x y _ (st.own.below vv).row HX.out HYI.out HI.out).mono ?_;rintro e wz ⟨rfl,hbz⟩;have vv:=zc vv hbz;obtain ⟨x0,x1,x2⟩:=zd (za st.box vv);rw [HSV.out];(go_wp2_with fail);refine kO hK (trivial) fun hHeld => ?_
        clear hK K;refine kK 11 q246 ?_;refine kR 12 q247 (fun K hK => ?_);go_simp
        first
        | refine zw (K:=K _) (fun wx kY hbx => ?_)
        | refine zq (K:=K _) (fun wx kY hbx => ?_)
        have vv:=zc vv hbx;obtain ⟨x0,x1,x2⟩:=zd (za st.box vv);clear hbx;refine kO hK (trivial) fun hHeld => ?_
        clear hK K;refine kR 13 q248 (fun K hK => ?_);have gn1:GRow sayF wx (some ⟨_,0,none⟩) 1 1 [(⟨(k:Int),true,SV⟩:SY)]:=zA (F:=sayF) (zaC sayF (base:=0) (l:=[(⟨(k:Int),true,SV⟩:SY)]) kY rfl (Nat.zero_le _) (by simp));refine zh (F:=sayF) rfl _ _ 26 99 rfl base Tryz.underlying26 zP rfl (by decide) _ sn ss rfl (zi st.own.s vv) _ 1 1 _ rfl gn1 (by omega) (Nat.le_trans st.size vv.size) ?_;intro aL cL wL how _ hgr hbL;obtain ⟨kX,stN,hBN⟩:=st.pushS (s:=(⟨(k:Int),true,SV⟩:SY)) vv hgr how;obtain ⟨x0,x1,x2⟩:=zd kX;have fz:=zg kX 2;refine kO hK (trivial) fun hHeld => ?_
        clear hK K;refine kK 14 q249 ?_;refine kK 15 q250 ?_;refine kR 16 q251 (fun K hK => ?_);go_simp;refine kO hK (trivial) fun hHeld => ?_
        clear hK K;refine wpAnyH_done (by kernel_rfl) ?_ _;have HST:=hide stN;have HBN:=hide (hB.trans hBN);clear hHeld kX how hgr hbL x0 x1 x2 fz kY gn1 vv stN hBN;go_wp2
        go_roundw
        case rel=>exact ⟨k+1,aL,sn+1,cL,by omega,by go_num,by rw [HS.out]; exact HST.out,HBN.out⟩
        case measure=>simp [intOf]; omega
       refine AllReadyH.cons (o:=q244) rfl (fun K hK => ?_) ?_
       ·go_simp;refine kO hK (trivial) fun hHeld => ?_
        clear hK K;refine tR [4,10] ?_;refine AllReadyH.cons (o:=q243) rfl (fun K hK => ?_) ?_
        ·go_simp;refine kO hK (trivial) fun hHeld => ?_
         clear hK K;refine kR 10 q245 (fun K hK => ?_);go_simp;refine (zcS ⟨ba,bn,bc,bs,some ⟨lb,lo,none⟩,ln,lc,ls,sa,sn,sc,ss⟩ k i x y _ (st.own.below vv).row HX.out HYI.out HI.out).mono ?_;rintro e wz ⟨rfl,hbz⟩;have vv:=zc vv hbz;obtain ⟨x0,x1,x2⟩:=zd (za st.box vv);rw [HSV.out];(go_wp2_with fail);refine kO hK (trivial) fun hHeld => ?_
         clear hK K;refine kK 11 q246 ?_;refine kR 12 q247 (fun K hK => ?_);go_simp
         first
         | refine zw (K:=K _) (fun wx kY hbx => ?_)
         | refine zq (K:=K _) (fun wx kY hbx => ?_)
         have vv:=zc vv hbx;obtain ⟨x0,x1,x2⟩:=zd (za st.box vv);clear hbx;refine kO hK (trivial) fun hHeld => ?_
         clear hK K;refine kR 13 q248 (fun K hK => ?_);have gn1:GRow sayF wx (some ⟨_,0,none⟩) 1 1 [(⟨(k:Int),true,SV⟩:SY)]:=zA (F:=sayF) (zaC sayF (base:=0) (l:=[(⟨(k:Int),true,SV⟩:SY)]) kY rfl (Nat.zero_le _) (by simp));refine zh (F:=sayF) rfl _ _ 26 99 rfl base Tryz.underlying26 zP rfl (by decide) _ sn ss rfl (zi st.own.s vv) _ 1 1 _ rfl gn1 (by omega) (Nat.le_trans st.size vv.size) ?_;intro aL cL wL how _ hgr hbL;obtain ⟨kX,stN,hBN⟩:=st.pushS (s:=(⟨(k:Int),true,SV⟩:SY)) vv hgr how;obtain ⟨x0,x1,x2⟩:=zd kX;have fz:=zg kX 2;refine kO hK (trivial) fun hHeld => ?_
         clear hK K;refine kK 14 q249 ?_;refine kK 15 q250 ?_;refine kR 16 q251 (fun K hK => ?_);go_simp;refine kO hK (trivial) fun hHeld => ?_
         clear hK K;refine wpAnyH_done (by kernel_rfl) ?_ _;have HST:=hide stN;have HBN:=hide (hB.trans hBN);clear hHeld kX how hgr hbL x0 x1 x2 fz kY gn1 vv stN hBN;go_wp2
         go_roundw
         case rel=>exact ⟨k+1,aL,sn+1,cL,by omega,by go_num,by rw [HS.out]; exact HST.out,HBN.out⟩
         case measure=>simp [intOf]; omega
        refine AllReadyH.cons (o:=q245) rfl (fun K hK => ?_) ?_
        ·go_simp;refine (zcS ⟨ba,bn,bc,bs,some ⟨lb,lo,none⟩,ln,lc,ls,sa,sn,sc,ss⟩ k i x y _ (st.own.below vv).row HX.out HYI.out HI.out).mono ?_;rintro e wz ⟨rfl,hbz⟩;have vv:=zc vv hbz;obtain ⟨x0,x1,x2⟩:=zd (za st.box vv);rw [HSV.out];(go_wp2_with fail);refine kO hK (trivial) fun hHeld => ?_
         clear hK K;refine kK 11 q246 ?_;refine tR [4,12] ?_;refine AllReadyH.cons (o:=q243) rfl (fun K hK => ?_) ?_
         ·go_simp;refine kO hK (trivial) fun hHeld => ?_
          clear hK K;refine kR 12 q247 (fun K hK => ?_);go_simp
          first
          | refine zw (K:=K _) (fun wx kY hbx => ?_)
          | refine zq (K:=K _) (fun wx kY hbx => ?_)
          have vv:=zc vv hbx;obtain ⟨x0,x1,x2⟩:=zd (za st.box vv);clear hbx;refine kO hK (trivial) fun hHeld => ?_
          clear hK K;refine kR 13 q248 (fun K hK => ?_);have gn1:GRow sayF wx (some ⟨_,0,none⟩) 1 1 [(⟨(k:Int),true,SV⟩:SY)]:=zA (F:=sayF) (zaC sayF (base:=0) (l:=[(⟨(k:Int),true,SV⟩:SY)]) kY rfl (Nat.zero_le _) (by simp));refine zh (F:=sayF) rfl _ _ 26 99 rfl base Tryz.underlying26 zP rfl (by decide) _ sn ss rfl (zi st.own.s vv) _ 1 1 _ rfl gn1 (by omega) (Nat.le_trans st.size vv.size) ?_;intro aL cL wL how _ hgr hbL;obtain ⟨kX,stN,hBN⟩:=st.pushS (s:=(⟨(k:Int),true,SV⟩:SY)) vv hgr how;obtain ⟨x0,x1,x2⟩:=zd kX;have fz:=zg kX 2;refine kO hK (trivial) fun hHeld => ?_
          clear hK K;refine kK 14 q249 ?_;refine kK 15 q250 ?_;refine kR 16 q251 (fun K hK => ?_);go_simp;refine kO hK (trivial) fun hHeld => ?_
          clear hK K;refine wpAnyH_done (by kernel_rfl) ?_ _;have HST:=hide stN;have HBN:=hide (hB.trans hBN);clear hHeld kX how hgr hbL x0 x1 x2 fz kY gn1 vv stN hBN;go_wp2
          go_roundw
          case rel=>exact ⟨k+1,aL,sn+1,cL,by omega,by go_num,by rw [HS.out]; exact HST.out,HBN.out⟩
          case measure=>simp [intOf]; omega
         refine AllReadyH.cons (o:=q247) rfl (fun K hK => ?_) ?_
         ·go_simp
          first
          | refine zw (K:=K _) (fun wx kY hbx => ?_)
          | refine zq (K:=K _) (fun wx kY hbx => ?_)
          have vv:=zc vv hbx;obtain ⟨x0,x1,x2⟩:=zd (za st.box vv);clear hbx;refine kO hK (trivial) fun hHeld => ?_
          clear hK K;refine kR 4 q243 (fun K hK => ?_);go_simp;refine kO hK (trivial) fun hHeld => ?_
          clear hK K;refine kR 13 q248 (fun K hK => ?_);have gn1:GRow sayF wx (some ⟨_,0,none⟩) 1 1 [(⟨(k:Int),true,SV⟩:SY)]:=zA (F:=sayF) (zaC sayF (base:=0) (l:=[(⟨(k:Int),true,SV⟩:SY)]) kY rfl (Nat.zero_le _) (by simp));refine zh (F:=sayF) rfl _ _ 26 99 rfl base Tryz.underlying26 zP rfl (by decide) _ sn ss rfl (zi st.own.s vv) _ 1 1 _ rfl gn1 (by omega) (Nat.le_trans st.size vv.size) ?_;intro aL cL wL how _ hgr hbL;obtain ⟨kX,stN,hBN⟩:=st.pushS (s:=(⟨(k:Int),true,SV⟩:SY)) vv hgr how;obtain ⟨x0,x1,x2⟩:=zd kX;have fz:=zg kX 2;refine kO hK (trivial) fun hHeld => ?_
          clear hK K;refine kK 14 q249 ?_;refine kK 15 q250 ?_;refine kR 16 q251 (fun K hK => ?_);go_simp;refine kO hK (trivial) fun hHeld => ?_
          clear hK K;refine wpAnyH_done (by kernel_rfl) ?_ _;have HST:=hide stN;have HBN:=hide (hB.trans hBN);clear hHeld kX how hgr hbL x0 x1 x2 fz kY gn1 vv stN hBN;go_wp2
          go_roundw
          case rel=>exact ⟨k+1,aL,sn+1,cL,by omega,by go_num,by rw [HS.out]; exact HST.out,HBN.out⟩
          case measure=>simp [intOf]; omega
         exact AllReadyH.nil
        exact AllReadyH.nil
       exact AllReadyH.nil
      ·have e2:(x.b == b)=false:=by simpa using hbb
       have HS:Hid (sayTo (bs.map BV.B) ls b ss0 (k+1)=ss):=hide (by rw [hnx,zh8 hx hab hbb]);clear hpa hpb hx hnx hab hnab hbb hU;have HST:=hide st;have HBN:=hide hB;clear st hB;go_wp2
       go_roundw
       case rel=>exact ⟨k+1,sa,sn,sc,by omega,by go_num,by rw [HS.out]; exact HST.out,HBN.out⟩
       case measure=>simp [intOf]; omega
    ·have g1:(40:Int)≤(sn:Int):=by omega
     have HS:Hid (sayTo (bs.map BV.B) ls b ss0 (k+1)=ss):=hide (by rw [hnx,zh9 (by omega)]);clear hU hnx;have HST:=hide st;have HBN:=hide hB;clear st hB;go_wp2
     go_roundw
     case rel=>exact ⟨k+1,sa,sn,sc,by omega,by go_num,by rw [HS.out]; exact HST.out,HBN.out⟩
     case measure=>simp [intOf]; omega
  ·have hkn:k=ln:=by omega
   subst hkn;have HST:=hide st;have HB:=hide hB;clear st hB;go_wp2;refine bodyPost_end (v:=.tuple #[]) (by simp [results,Tryz.results77,go_sem, *]) rfl ?_;exact ⟨rfl,sa,sn,sc,HST.out,HB.out⟩

theorem zcw {bs:List BR} {ls:List LK} {k:Nat} {x:LK} (hx:ls[k]? = some x) (h:zQ bs ls (k:Int)=true):∃(i ip j jq:Nat) (A B:BR) (pA pB:PT),x=⟨(i:Int),(ip:Int),(j:Int),(jq:Int)⟩∧bs[i]? = some A∧bs[j]? = some B∧A.ports[ip]? = some pA∧B.ports[jq]? = some pB:=by
 unfold zQ at h;rw [if_pos (by omega),Int.toNat_natCast,hx] at h;dsimp only at h;have key:∀b p:Int,upAt bs b p=true→∃(i ip:Nat) (A:BR) (pA:PT),b=(i:Int)∧p=(ip:Int)∧bs[i]? = some A∧A.ports[ip]? = some pA:=by
  intro b p hu;unfold upAt zM at hu;by_cases hc:0≤b∧0≤p
  ·rw [if_pos hc] at hu;cases hA:bs[b.toNat]? with
   | none=>rw [hA] at hu; simp at hu
   | some A =>
    rw [hA] at hu;cases hp:A.ports[p.toNat]? with
    | none=>simp [hp] at hu
    | some pA=>exact ⟨b.toNat,p.toNat,A,pA,by omega,by omega,hA,hp⟩
  ·rw [if_neg hc] at hu
   simp at hu
 rw [Bool.and_eq_true] at h;obtain ⟨i,ip,A,pA,e1,e2,hA,hpA⟩:=key _ _ h.1;obtain ⟨j,jq,B,pB,e3,e4,hB,hpB⟩:=key _ _ h.2;obtain ⟨xa,xp,xb,xq⟩:=x;dsimp only at e1 e2 e3 e4;subst e1 e2 e3 e4;exact ⟨i,ip,j,jq,A,B,pA,pB,rfl,hA,hB,hpA,hpB⟩

def upTo (bs:List BR) (ls:List LK):Nat→List Int
 | 0=>[]
 | k+1=>if zQ bs ls (k:Int)=true then upTo bs ls k++[(k:Int)] else upTo bs ls k

theorem zfR {bs:List BR} {ls:List LK} {k:Nat} (h:zQ bs ls (k:Int)=false):upTo bs ls (k+1)=upTo bs ls k:=by
 rw [upTo,if_neg (by rw [h]; decide)]
theorem zeD {bs:List BR} {ls:List LK} {k:Nat} (h:zQ bs ls (k:Int)=true):upTo bs ls (k+1)=upTo bs ls k++[(k:Int)]:=by
 rw [upTo,if_pos h]
theorem zcG (bs:List BR) (ls:List LK):∀k,(upTo bs ls k).length≤k
 | 0=>Nat.le_refl _
 | k+1=>by
  have:=zcG bs ls k
  cases h:zQ bs ls (k:Int)
  ·rw [zfR h]; omega
  ·rw [zeD h,List.length_append]; simp; omega
theorem zfQ (bs:List BR) (ls:List LK):∀k,∀z∈upTo bs ls k,0≤z∧z < (k:Int)∧zQ bs ls z=true
 | 0=>fun z hz=>by simp [upTo] at hz
 | k+1=>fun z hz=>by
  have ih:=zfQ bs ls k;cases h:zQ bs ls (k:Int)
  ·rw [zfR h] at hz
   have:=ih z hz
   exact ⟨this.1,by omega,this.2.2⟩
  ·rw [zeD h,List.mem_append] at hz;rcases hz with hz | hz
   ·have:=ih z hz
    exact ⟨this.1,by omega,this.2.2⟩
   ·simp at hz
    subst hz;exact ⟨by omega,by omega,h⟩
theorem zgl {bs:List BR} {ls:List LK} {k:Int}:∀{n:Nat},k∈upTo bs ls n↔∃κ:Nat,k=(κ:Int)∧κ < n∧zQ bs ls (κ:Int)=true
 | 0=>by simp [upTo]
 | n+1=>by
  rw [upTo];have ih:=@zgl bs ls k n
  split
  ·next hl =>
   rw [List.mem_append,List.mem_singleton,ih]
   constructor
   ·rintro (⟨κ,h1,h2,h3⟩ | rfl)
    ·exact ⟨κ,h1,by omega,h3⟩
    ·exact ⟨n,rfl,by omega,hl⟩
   ·rintro ⟨κ,h1,h2,h3⟩;by_cases e:κ=n
    ·subst e; exact .inr h1
    ·exact .inl ⟨κ,h1,by omega,h3⟩
  ·next hl =>
   rw [ih]
   constructor
   ·rintro ⟨κ,h1,h2,h3⟩;exact ⟨κ,h1,by omega,h3⟩
   ·rintro ⟨κ,h1,h2,h3⟩;have e:κ≠n:=by rintro rfl; exact hl h3
    exact ⟨κ,h1,by omega,h3⟩

theorem zbJ (N:NV) (w:World) (h:zac w N) (h20:N.ln≤1048576) :
  Calls Tryz.prog 12 #[.agg #[.slice N.ba N.bn N.bc,.slice N.la N.ln N.lc,.slice N.sa N.sn N.sc]] w fun e w'=>∃ao cap,e=.returned (.slice ao (upTo N.brs N.ls N.ln).length cap)∧w'.ownsRow w.heap.size 3 1 (.slice ao (upTo N.brs N.ls N.ln).length cap) (upTo N.brs N.ls N.ln).length (intF.all (upTo N.brs N.ls N.ln))∧Below w.heap.size w w':=by
 generalize hw1:w.alloc (Obj.cells #[.slice N.ba N.bn N.bc,.slice N.la N.ln N.lc,.slice N.sa N.sn N.sc] 28)=w1;have b01:=zb hw1;have k1:=zk hw1;have HZ:Hid (w1.heap.size=w.heap.size+1):=hide (by rw [← hw1]; simp);obtain ⟨x0,x1,x2⟩:=zd k1;go_enter Tryz.func12,Tryz.ntmps12;go_wp2_with fail
 clear hw1 x0 x1 x2
 go_loopw [3,4,8] (fun p u i wr=>∃(k:Nat) (ao:Option Addr) (cap:Nat),k≤N.ln∧i=.int .i64 k∧p=.slice ao (upTo N.brs N.ls k).length cap∧wr.ownsRow w.heap.size 3 1 (.slice ao (upTo N.brs N.ls k).length cap) (upTo N.brs N.ls k).length (intF.all (upTo N.brs N.ls k))∧wr.heap[w.heap.size]? = some (.cells #[.slice N.ba N.bn N.bc,.slice N.la N.ln N.lc,.slice N.sa N.sn N.sc] 28)∧Below w.heap.size w wr) (fun _ _ i _=>N.ln - (intOf i).toNat)
 case atStart=>exact ⟨0,none,0,Nat.zero_le _,rfl,rfl,World.ownsRow_nil _ _ _ _,k1,b01⟩
 case round =>
  obtain ⟨k,ao,cap,hk,rfl,rfl,ow,kP,hb⟩:=hrel;clear k1 b01;obtain ⟨x0,x1,x2⟩:=zd kP;by_cases hlt:k < N.ln
  ·have i1:(0:Int)≤(k:Int):=by omega
   have i2:(k:Int) < (N.ln:Int):=by omega
   have HLQ:=hide (zcG N.brs N.ls k);(go_wp2_with fail);clear x0 x1 x2;refine (zdN N (k:Int) _ (h.below hb)).mono ?_;rintro e w3 ⟨rfl,hbc⟩;have kP:=za kP hbc;have hb:=zc hb hbc;have ow:=zi ow hbc;clear hbc;obtain ⟨x0,x1,x2⟩:=zd kP;cases hU:zQ N.brs N.ls (k:Int)
   ·have HF:=hide (zfR hU);clear hU;have HO:=hide ow;have HP:=hide kP;have HB:=hide hb;clear ow kP hb;go_wp2
    go_roundw
    case rel=>exact ⟨k+1,ao,cap,by omega,by go_num,by rw [HF.out],by rw [HF.out]; exact HO.out,HP.out,HB.out⟩
    case measure=>simp [intOf]; omega
   ·have HF:=hide (zeD hU);clear hU;generalize hwa:w3.alloc (Obj.cells #[Value.int .i64 k] 3)=wa;have bra:=zb hwa;have ka:=zk hwa;have gone:GRow intF wa (some ⟨w3.heap.size,0,none⟩) 1 1 [(k:Int)]:=zA (F:=intF) (zcR intF (x:=(k:Int)) (base:=0) ka rfl (Nat.zero_le _));have hI2:=zi ow bra;have HBA:=hide (zc hb bra);have KPA:=hide (za kP bra);clear ow hb kP;generalize hq:(upTo N.brs N.ls k).length=q at *;go_wp2_with (at_builtin; refine zS (F:=intF) _ rfl _ _ 35 3 rfl w.heap.size Tryz.underlying35 Tryz.infoI64 rfl (by decide) _ q (upTo N.brs N.ls k) rfl hI2 (some ⟨w3.heap.size,0,none⟩) 1 1 [(k:Int)] rfl gone (by have:=HLQ.out; omega) HBA.out.size ?_)
    intro a7 c7 w7 how hr hgr hb7;have HB7:=hide (HBA.out.trans hb7);have KP7:=hide (ze KPA.out hgr (fun b e=>zt hI2 KPA.out (by decide) b e));have HQ1:Hid ((upTo N.brs N.ls (k+1)).length=q+1):=hide (by rw [HF.out,List.length_append,hq]; rfl);rw [← HF.out] at how;have HO:=hide how;clear how hr hgr hb7 hI2 gone ka hq;go_wp2
    go_roundw
    case rel=>exact ⟨k+1,a7,c7,by omega,by go_num,by rw [HQ1.out],by rw [HQ1.out]; exact HO.out,KP7.out,HB7.out⟩
    case measure=>simp [intOf]; omega
  ·have hkn:k=N.ln:=by omega
   subst hkn;have HO:=hide ow;have HB:=hide hb;clear ow hb;go_wp2;go_ret;exact ⟨ao,cap,rfl,HO.out,HB.out⟩

structure Way (x:LK) (back:Bool) (fb fp tb tp:Int):Prop where
 yes:back=true→fb=x.b∧fp=x.q∧tb=x.a∧tp=x.p
 no:back=false→fb=x.a∧fp=x.p∧tb=x.b∧tp=x.q

theorem zhJ (x:LK) (back:Bool) (fb fp tb tp:Int) (w:World) (hw:Way x back fb fp tb tp) :
  Calls Tryz.prog 53 #[.agg #[.int .i64 x.a,.int .i64 x.p,.int .i64 x.b,.int .i64 x.q],.bool back] w fun e w'=>e=.returned (.tuple #[.agg #[.int .i64 fb,.int .i64 fp],.agg #[.int .i64 tb,.int .i64 tp]])∧Below w.heap.size w w':=by
 generalize hw1:w.alloc (Obj.cells #[.int .i64 x.a,.int .i64 x.p,.int .i64 x.b,.int .i64 x.q] 66)=w1;generalize hw2:w1.alloc (Obj.cells #[.int .i64 0,.int .i64 0] 68)=w2;generalize hw3:w2.alloc (Obj.cells #[.int .i64 0,.int .i64 0] 68)=w3;have b01:=zb hw1;have b12:=zb hw2;have b23:=zb hw3;have b13:=zc b12 b23;have k0:=za (zk hw1) b13;have k1:=za (zk hw2) b23;have k2:=zk hw3;have b03:=zc b01 b13;have HZ:Hid (w1.heap.size=w.heap.size+1∧w2.heap.size=w.heap.size+2):=hide ⟨by rw [← hw1]; simp,by rw [← hw2,← hw1]; simp⟩;have HZ3:Hid (w3.heap.size=w.heap.size+3):=hide (by rw [← hw3,← hw2,← hw1]; simp);obtain ⟨x0,x1,x2,x3⟩:=zr k0;go_enter Tryz.func53,Tryz.ntmps53;go_wp2_with fail
 refine (zcK x _).mono ?_;rintro e we ⟨rfl,hbe⟩;generalize hwq:we.alloc (Obj.cells #[.int .i64 x.a,.int .i64 x.p,.int .i64 x.b,.int .i64 x.q] 69)=wq;have bq:=zb hwq;have kE:=zk hwq;have bq:=zc hbe bq;have k1:=za k1 bq;have k2:=za k2 bq;have b0:=zc b03 bq;have HZ4:Hid (w.heap.size+3≤we.heap.size):=hide (by have:=hbe.size; have:=HZ3.out; omega);clear x0 x1 x2 x3 hbe k0 hw1 hw2 hw3 b01 b12 b23 b13 b03;cases back
 ·obtain ⟨rfl,rfl,rfl,rfl⟩:=hw.no rfl;clear hw;(go_upto_region 4 with fail);clear hwq;have vv:Below wq.heap.size wq wq.drew:=zG (Below.refl _ _);have bb:=zc b0 vv;obtain ⟨p0,p1⟩:=zl k1;obtain ⟨p2,p3⟩:=zl k2;have p4:=zg k1 0;have p5:=zg k1 1;have p6:=zg k2 0;have p7:=zg k2 1;have k1:=za k1 vv;have k2:=za k2 vv;have kE:=za kE vv;clear b0 bq vv;refine wp_region_held_drew (S:=(fun W=>(zcc W we.heap.size 0 (.int .i64 x.a)∧zcc W we.heap.size 1 (.int .i64 x.p)∧zcc W we.heap.size 2 (.int .i64 x.b)∧zcc W we.heap.size 3 (.int .i64 x.q)))) (by kernel_rfl) (zr kE) (fun hHeld => ?_);refine kK 0 ⟨some 14,.indexAddr 69 (.tmp 6) (.const (.int .i64 0)),0,"l14_step.go:175",#[],none⟩ ?_;refine kK 1 ⟨some 15,.load 68 (.tmp 14),68,"l14_step.go:175",#[⟨0,.data⟩],none⟩ ?_;refine kK 2 ⟨some 16,.indexAddr 69 (.tmp 6) (.const (.int .i64 1)),0,"l14_step.go:175",#[{ on:=4,ground:=Ground.gcOnly Departure.lateStores }],none⟩ ?_;refine kK 3 ⟨some 17,.load 68 (.tmp 16),68,"l14_step.go:175",#[⟨2,.data⟩,{ on:=4,ground:=Ground.gcOnly Departure.lateStores }],none⟩ ?_;refine kR 4 ⟨none,.store 68 (.tmp 4) (.tmp 15),0,"l14_step.go:175",#[⟨1,.data⟩,⟨0,.phase⟩,⟨1,.phase⟩,{ on:=2,ground:=Ground.textOnly Departure.lateStores },{ on:=3,ground:=Ground.textOnly Departure.lateStores }],none⟩ (fun K hK => ?_);obtain ⟨xx0,xx1⟩:=zl k1;have ff0:=zg k1 0;have ff1:=zg k1 1;go_simp;refine zI (K:=K _) k1 _ _ (fun wq kQ hgq => ?_);have bb:=bb.grown hgq bb.size (by intro j e; cases e; have:=HZ.out; omega);have kE:=ze kE hgq (by intro j e; cases e; have:=HZ.out; have:=HZ4.out; omega);(try have k2:=ze k2 hgq (by intro j e; cases e; have:=HZ.out; omega));(try have kA:=ze kA hgq (by intro j e; cases e; have:=HZ.out; omega));(try have kB:=ze kB hgq (by intro j e; cases e; have:=HZ.out; omega));have kA:=kQ;clear hgq kQ xx0 xx1 ff0 ff1;refine kO hK (zr kE) fun hHeld => ?_
  clear hK K;refine kR 5 ⟨none,.store 68 (.tmp 5) (.tmp 17),0,"l14_step.go:175",#[⟨3,.data⟩,⟨4,.chain⟩,⟨0,.phase⟩,⟨1,.phase⟩,⟨2,.phase⟩,⟨3,.phase⟩,⟨4,.phase⟩],none⟩ (fun K hK => ?_);obtain ⟨xx0,xx1⟩:=zl k2;have ff0:=zg k2 0;have ff1:=zg k2 1;go_simp;refine zI (K:=K _) k2 _ _ (fun wq kQ hgq => ?_);have bb:=bb.grown hgq bb.size (by intro j e; cases e; have:=HZ.out; omega);have kE:=ze kE hgq (by intro j e; cases e; have:=HZ.out; have:=HZ4.out; omega);(try have k1:=ze k1 hgq (by intro j e; cases e; have:=HZ.out; omega));(try have kA:=ze kA hgq (by intro j e; cases e; have:=HZ.out; omega));(try have kB:=ze kB hgq (by intro j e; cases e; have:=HZ.out; omega));have kB:=kQ;clear hgq kQ xx0 xx1 ff0 ff1;refine kO hK (zr kE) fun hHeld => ?_
  clear hK K;refine wpAnyH_done (by kernel_rfl) ?_ _;have HB:=hide bb;obtain ⟨r0,r1⟩:=zl kA;obtain ⟨t0,t1⟩:=zl kB;clear hHeld kE k1 k2 kA kB bb;go_wp2;exact bodyPost_ret (v:=.tuple #[.agg #[.int .i64 x.a,.int .i64 x.p],.agg #[.int .i64 x.b,.int .i64 x.q]]) (by simp [results,Tryz.results53,go_sem, *]) rfl ⟨rfl,HB.out⟩
 ·obtain ⟨rfl,rfl,rfl,rfl⟩:=hw.yes rfl;clear hw;(go_upto_region 3 with fail);clear hwq;have vv:Below wq.heap.size wq wq.drew:=zG (Below.refl _ _);have bb:=zc b0 vv;obtain ⟨p0,p1⟩:=zl k1;obtain ⟨p2,p3⟩:=zl k2;have p4:=zg k1 0;have p5:=zg k1 1;have p6:=zg k2 0;have p7:=zg k2 1;have k1:=za k1 vv;have k2:=za k2 vv;have kE:=za kE vv;clear b0 bq vv;refine wp_region_held_drew (S:=(fun W=>(zcc W we.heap.size 0 (.int .i64 x.a)∧zcc W we.heap.size 1 (.int .i64 x.p)∧zcc W we.heap.size 2 (.int .i64 x.b)∧zcc W we.heap.size 3 (.int .i64 x.q)))) (by kernel_rfl) (zr kE) (fun hHeld => ?_);refine kK 0 ⟨some 10,.indexAddr 69 (.tmp 6) (.const (.int .i64 1)),0,"l14_step.go:173",#[],none⟩ ?_;refine kK 1 ⟨some 11,.load 68 (.tmp 10),68,"l14_step.go:173",#[⟨0,.data⟩],none⟩ ?_;refine kK 2 ⟨some 12,.indexAddr 69 (.tmp 6) (.const (.int .i64 0)),0,"l14_step.go:173",#[{ on:=4,ground:=Ground.gcOnly Departure.lateStores }],none⟩ ?_;refine kK 3 ⟨some 13,.load 68 (.tmp 12),68,"l14_step.go:173",#[⟨2,.data⟩,{ on:=4,ground:=Ground.gcOnly Departure.lateStores }],none⟩ ?_;refine kR 4 ⟨none,.store 68 (.tmp 4) (.tmp 11),0,"l14_step.go:173",#[⟨1,.data⟩,⟨0,.phase⟩,⟨1,.phase⟩,{ on:=2,ground:=Ground.textOnly Departure.lateStores },{ on:=3,ground:=Ground.textOnly Departure.lateStores }],none⟩ (fun K hK => ?_);obtain ⟨xx0,xx1⟩:=zl k1;have ff0:=zg k1 0;have ff1:=zg k1 1;go_simp;refine zI (K:=K _) k1 _ _ (fun wq kQ hgq => ?_);have bb:=bb.grown hgq bb.size (by intro j e; cases e; have:=HZ.out; omega);have kE:=ze kE hgq (by intro j e; cases e; have:=HZ.out; have:=HZ4.out; omega);(try have k2:=ze k2 hgq (by intro j e; cases e; have:=HZ.out; omega));(try have kA:=ze kA hgq (by intro j e; cases e; have:=HZ.out; omega));(try have kB:=ze kB hgq (by intro j e; cases e; have:=HZ.out; omega));have kA:=kQ;clear hgq kQ xx0 xx1 ff0 ff1;refine kO hK (zr kE) fun hHeld => ?_
  clear hK K;refine kR 5 ⟨none,.store 68 (.tmp 5) (.tmp 13),0,"l14_step.go:173",#[⟨3,.data⟩,⟨4,.chain⟩,⟨0,.phase⟩,⟨1,.phase⟩,⟨2,.phase⟩,⟨3,.phase⟩,⟨4,.phase⟩],none⟩ (fun K hK => ?_);obtain ⟨xx0,xx1⟩:=zl k2;have ff0:=zg k2 0;have ff1:=zg k2 1;go_simp;refine zI (K:=K _) k2 _ _ (fun wq kQ hgq => ?_);have bb:=bb.grown hgq bb.size (by intro j e; cases e; have:=HZ.out; omega);have kE:=ze kE hgq (by intro j e; cases e; have:=HZ.out; have:=HZ4.out; omega);(try have k1:=ze k1 hgq (by intro j e; cases e; have:=HZ.out; omega));(try have kA:=ze kA hgq (by intro j e; cases e; have:=HZ.out; omega));(try have kB:=ze kB hgq (by intro j e; cases e; have:=HZ.out; omega));have kB:=kQ;clear hgq kQ xx0 xx1 ff0 ff1;refine kO hK (zr kE) fun hHeld => ?_
  clear hK K;refine wpAnyH_done (by kernel_rfl) ?_ _;have HB:=hide bb;obtain ⟨r0,r1⟩:=zl kA;obtain ⟨t0,t1⟩:=zl kB;clear hHeld kE k1 k2 kA kB bb;go_wp2;exact bodyPost_ret (v:=.tuple #[.agg #[.int .i64 x.b,.int .i64 x.q],.agg #[.int .i64 x.a,.int .i64 x.p]]) (by simp [results,Tryz.results53,go_sem, *]) rfl ⟨rfl,HB.out⟩

theorem zfv {w:World} {ao:Option Addr} {n c:Nat} {l:List Int} (h:GRow intF w ao n c l) (i:Nat) (hi:i < n):∃(z:Int) (b off:Nat),l[i]? = some z∧ao=some ⟨b,off,none⟩∧w.cell? ⟨b,off+i,none⟩=some (.int .i64 z):=by
 obtain ⟨z,b,off,hz,ha,hc⟩:=h.at i hi;exact ⟨z,b,off,hz,ha,by have:=hc 0 _ rfl; simpa [intF] using this⟩

def endW (K:Int) (x:BV):Int:=K+1+1+8*x.n+5*x.fn+3*x.rn+x.on
def markV (K:Int) (x:BV):BV:={ x with B:=⟨K,mtx (K+1),zjm (K+1+1) x.n,zjk (K+1+1+8*x.n) x.fn,⟨zjn (K+1+1+8*x.n+5*x.fn) x.rn,zjq (K+1+1+8*x.n+5*x.fn+3*x.rn) x.on⟩,endW K x,endW K x+1,endW K x+1+1,endW K x+1+1+1,endW K x+1+1+1+1⟩ }
def endV (K:Int) (x:BV):Int:=endW K x+1+1+1+1+1
def zhj:Int→List BV→List BV
 | _,[]=>[]
 | k,x::r=>markV k x::zhj (endV k x) r
def endVs:Int→List BV→Int
 | k,[]=>k
 | k,x::r=>endVs (endV k x) r

theorem BOs.cell {w:World} {base g n cap jj a:Nat} {u:Value} {pre post:List BV} {x x':BV} (h:BOs w base (some ⟨g,0,none⟩) n cap (pre++x::post)) (hjj:jj < 11) (ha:a=pre.length*11+jj) (hc:(brF.cs x).set jj u=brF.cs x') (hb:x'.blks=x.blks) (hx:x.Own w base→x'.Own w base):BOs (w.setCell ⟨g,a,none⟩ u) base (some ⟨g,0,none⟩) n cap (pre++x'::post):=by
 subst ha;have hm:x∈pre++x::post:=by simp
 have O:=Only.set w g (pre.length*11+jj) u;refine h.turn (bs:=[g]) (x':=x') (by rw [hb]; exact zcJ h.apart) O (fun b hb=>.inr (by simpa [blkL] using hb)) (zF (F:=brF) h.row jj u hjj hc) ?_;exact (hx (h.item x hm)).only O (fun b hb' hb2=>BV.Own.row_apart h.row (h.item x hm) b (hb▸hb') (by simpa [blkL] using hb2))

def markN (M:NV):NV:={ M with bs:=zhj 1 M.bs,ls:=ziC (endVs 1 M.bs) M.ln }
def endN (M:NV):Int:=endVs 1 M.bs+4*M.ln
def NV.blks (M:NV):List Nat:=allB M.ba M.bs++blkL M.la

theorem zaM.blk {w:World} {base:Nat} {M:NV} (h:zaM w base M):∀b∈M.blks,base≤b∧b < w.heap.size:=by
 intro b hb;rcases List.mem_append.1 hb with hb | hb
 ·exact h.b.blk b hb
 ·exact h.l.lt b (zV.2 hb)

def zjp (k:Int):SY:=⟨k,(k+1) % 3 == 0,⟨k+1+1,k+1+1+1,k+1+1+1+1,k+1+1+1+1+1,k+1+1+1+1+1+1⟩⟩
def zjo (k:Int) (n:Nat):List SY:=(List.range n).map fun (i:Nat)=>zjp (k+7*i)

def markM (M:NV):NV:={ M with bs:=zhj 1 M.bs,ls:=ziC (endVs 1 M.bs) M.ln,ss:=zjo (endVs 1 M.bs+4*M.ln) M.sn }
def endM (M:NV):Int:=endVs 1 M.bs+4*M.ln+7*M.sn
def NV.blksA (M:NV):List Nat:=allB M.ba M.bs++(blkL M.la++blkL M.sa)
def NV.Fits (M:NV):Prop:=endVs 1 M.bs≤16777216∧M.ln≤1048576∧M.sn≤1048576

theorem NOwn.blk {w:World} {base:Nat} {M:NV} (h:NOwn w base M):∀b∈M.blksA,base≤b∧b < w.heap.size:=by
 intro b hb;rcases List.mem_append.1 hb with hb | hb
 ·exact h.b.blk b hb
 ·rcases List.mem_append.1 hb with hb | hb
  ·exact h.l.lt b (zV.2 hb)
  ·exact h.s.lt b (zV.2 hb)

theorem NOwn.only {bs:List Nat} {w w':World} {base:Nat} {M:NV} (h:NOwn w base M) (ho:Only bs w w') (hn:∀b∈M.blksA,b∉bs):NOwn w' base M :=
 ⟨h.b.only ho (fun b hb=>hn b (List.mem_append_left _ hb)),ho.own h.l (fun k hk=>hn k (List.mem_append_right _ (List.mem_append_left _ (zV.1 hk)))),ho.own h.s (fun k hk=>hn k (List.mem_append_right _ (List.mem_append_right _ (zV.1 hk))))⟩

end Go.Proofs.YtkaefmfopejbaaaGreat
