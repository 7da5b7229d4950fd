/-
  A row put in its place, as the specification has it.
-/
import Derived.Test.YtcpdkcdfnpcemaaGreatPRK09
namespace Go.Proofs.YtcpdkcdfnpcemaaGreat
set_option maxRecDepth 100000
set_option maxHeartbeats 16000000
open Go.RowKit

theorem zcK {w:World} {b:Nat} {x:VR} (h:w.heap[b]? = some (.cells #[.int .i64 x.i,.int .i64 x.m,.int .i64 x.b] 119)):GRow vrowF w (some ⟨b,0,none⟩) 1 1 [x]:=by
 have hc:=(zas h).1;refine ⟨rfl,Nat.le_refl _,by unfold maxLen; omega,(by intro h; cases h),.inr ⟨b,0,rfl,fun i y hi j v hv => ?_⟩⟩
 match i,hi with
 | 0,hi =>
  cases hi
  match j,hv with
  | 0,hv=>cases hv; exact hc.1
  | 1,hv=>cases hv; exact hc.2.1
  | 2,hv=>cases hv; exact hc.2.2
  | j+3,hv=>simp [vrowF] at hv
 | i+1,hi=>simp at hi

theorem zgt {l:List VR} {k:Nat} {x:VR} (h:l[k]? = some x):l.drop k=x::l.drop (k+1):=by
 obtain ⟨hk,rfl⟩:=List.getElem?_eq_some_iff.1 h;exact List.drop_eq_getElem_cons hk

theorem zfq (a:Option Addr) (n c:Nat) (o:Option Addr) (p q:Nat) (v:VT) (r:VR) (w:World) (h:VTab w a n c o p q v) (hn:n≤16777216) (hp:p≤16777216) :
  Calls Tryz.prog 204 #[.agg #[.slice a n c,.slice o p q],.agg #[.int .i64 r.i,.int .i64 r.m,.int .i64 r.b]] w fun e w'=>∃a' n' c' o' q',e=.returned (.agg #[.slice a' n' c',.slice o' p q'])∧VOwn w' w.heap.size a' n' c' o' p q' ⟨zy v.rows r false,v.own⟩∧Below w.heap.size w w':=by
 generalize hw1:w.alloc (Obj.cells #[Value.slice a n c,Value.slice o p q] 29)=w1;generalize hw2:w1.alloc (Obj.cells #[Value.int .i64 r.i,Value.int .i64 r.m,Value.int .i64 r.b] 119)=w2;generalize hw3:w2.alloc (Obj.cells #[Value.slice none 0 0,Value.slice none 0 0] 29)=w3;have b01:=zb hw1;have b12:=zb hw2;have b23:=zb hw3;have b13:=zd b12 b23;have b03:=zd b01 b13;have k2:=zk hw3;have z3:Hid (w2.heap.size < w3.heap.size):=hide (by rw [← hw3]; simp);obtain ⟨e0,e0'⟩:=zP hw1 b13;have kr:w3.heap[w1.heap.size]? = some (.cells #[.int .i64 r.i,.int .i64 r.m,.int .i64 r.b] 119):=ze (by rw [← hw2]; exact zv _ _:w2.heap[w1.heap.size]? = _) b23;obtain ⟨⟨e1,e2,e3⟩,-⟩:=zas kr;have h3:=h.below b03;have hl:=h.rows.size;generalize hw4:w3.alloc (Obj.cells #[] 3)=w4;have b34:=zb hw4;have k4:=zk hw4;have e4:=zf e0' b34;have hI:=zaL intF w3 w4 3 _ k4 (Nat.le_refl _);go_enter Tryz.func204,Tryz.ntmps204;go_wp2_with (at_builtin; refine zw (F:=intF) _ rfl _ _ 27 3 rfl w3.heap.size Tryz.underlying27 Tryz.infoI64 rfl (by decide) _ 0 [] rfl hI o p q v.own rfl ((h3.own.below b34).flat) (by omega) b34.size ?_)
 intro oo qq w5 how hrow hgr hb5;have hI:w5.ownsRow w3.heap.size 3 1 (.slice oo p qq) p (cI v.own):=by rw [← zF]; exact how
 have v5:Below w3.heap.size w3 w5:=b34.trans hb5;clear how hrow hgr hb5;generalize hw6:w5.alloc (Obj.cells #[Value.slice none 0 0,Value.slice oo p qq] 29)=w6;have v6:Below w3.heap.size w3 w6:=by subst hw6; exact zdj v5 _
 have hst:RowSt w3.heap.size w6 w5.heap.size none 0 0 oo p qq v.own []:=⟨by rw [← hw6]; exact zv _ _,⟨by simp [Flat.all],.inl ⟨rfl,rfl⟩⟩,by subst hw6; exact zo hI (zh _ _)⟩;have hX:=v5.size;go_wp2_with fail
 go_loopw [6,7] (fun dn i wr=>∃(k:Nat) (ar:Option Addr) (nr cr:Nat) (d:Bool) (zs:List VR),k≤n∧i=.int .i64 k∧dn=.bool d∧RowSt w3.heap.size wr w5.heap.size ar nr cr oo p qq v.own zs∧zs++zy (v.rows.drop k) r d=zy v.rows r false∧nr≤2*k∧Below w3.heap.size w3 wr) (fun _ i _=>n - (intOf i).toNat)
 case atStart=>exact ⟨0,none,0,0,false,[],Nat.zero_le _,rfl,rfl,hst,rfl,Nat.zero_le _,v6⟩
 case round =>
  clear hst v6 hw6 hw4 k4 e4 hI;obtain ⟨k,ar,nr,cr,d,zs,hk,rfl,rfl,hst,hzs,hnr,vv⟩:=hrel;have f0:=zf e0 vv;obtain ⟨⟨cx,cy⟩,fx,fy⟩:=hst.cell;by_cases hlt:k < n
  ·obtain ⟨x,b,off,hx,rfl,d0,d1,d2⟩:=zaI h3.rows k hlt;have i1:(0:Int)≤(k:Int):=by omega
   have i2:(k:Int) < (n:Int):=by omega
   have hdrop:v.rows.drop k=x::v.rows.drop (k+1):=zgt hx;rw [hdrop] at hzs;have HZ:=hide hzs;clear hzs hdrop;have vv:=zr vv;have hst:=hst.below (zr (Below.refl _ _));cases d
   ·cases hle:decide (r.i≤x.i)
    ·(go_wp2_with fail);refine wp_region_held_drew (S:=(fun W=>zcc W w.heap.size 0 (.slice (some ⟨b,off,none⟩) n c)∧zcc W w1.heap.size 0 (.int .i64 r.i)∧zcc W b (off+k*3) (.int .i64 x.i)∧zcc W b (off+k*3+1) (.int .i64 x.m)∧zcc W b (off+k*3+2) (.int .i64 x.b))) (by kernel_rfl) (⟨zf e0 vv,zf e1 vv,zf d0 vv,zf d1 vv,zf d2 vv⟩) (fun hHeld => ?_);refine kK 0 ?_;refine kK 1 ?_;refine kK 2 ?_;refine kK 3 ?_;refine kK 4 ?_;refine kK 5 ?_;refine kK 6 ?_;refine kK 7 ?_;refine kK 8 ?_;refine kK 9 ?_;refine kK 10 ?_;refine kK 11 ?_;refine kK 12 ?_;refine wpAnyH_done (by kernel_rfl) ?_ _;generalize wr.drew=wz at hst vv ⊢;(go_wp2_with fail);cases hne:(x.i != r.i)
     ·obtain ⟨⟨cx,cy⟩,fx,fy⟩:=hst.cell;have vv:=zr vv;have hst:=hst.below (zr (Below.refl _ _));(go_wp2_with fail);refine wp_region_held_drew (S:=(fun W=>zcc W w.heap.size 0 (.slice (some ⟨b,off,none⟩) n c)∧zcc W w1.heap.size 0 (.int .i64 r.i)∧zcc W b (off+k*3) (.int .i64 x.i)∧zcc W b (off+k*3+1) (.int .i64 x.m)∧zcc W b (off+k*3+2) (.int .i64 x.b))) (by kernel_rfl) (⟨zf e0 vv,zf e1 vv,zf d0 vv,zf d1 vv,zf d2 vv⟩) (fun hHeld => ?_);refine kK 0 ?_;refine kK 1 ?_;refine kK 2 ?_;refine kK 3 ?_;refine kK 4 ?_;refine kK 5 ?_;refine kK 6 ?_;refine kK 7 ?_;refine kK 8 ?_;refine wpAnyH_done (by kernel_rfl) ?_ _;go_wp2
      go_roundw
      case rel=>exact ⟨k+1,_,_,_,_,_,by omega,by go_num,rfl,hst,Eq.trans (by have t:=zdP (zs:=zs) (t:=v.rows.drop (k+1)) (d:=false) (by rw [hle]; rfl) hne; rw [hle] at t; exact t) HZ.out,by omega,vv⟩
      case measure=>simp [intOf]; omega
     ·obtain ⟨⟨cx,cy⟩,fx,fy⟩:=hst.cell;have vv:=zr vv;have hst:=hst.below (zr (Below.refl _ _));(go_wp2_with fail);refine wp_region_held_drew (S:=(fun W=>zcc W w.heap.size 0 (.slice (some ⟨b,off,none⟩) n c)∧zcc W w1.heap.size 0 (.int .i64 r.i)∧zcc W b (off+k*3) (.int .i64 x.i)∧zcc W b (off+k*3+1) (.int .i64 x.m)∧zcc W b (off+k*3+2) (.int .i64 x.b))) (by kernel_rfl) (⟨zf e0 vv,zf e1 vv,zf d0 vv,zf d1 vv,zf d2 vv⟩) (fun hHeld => ?_);refine kK 0 ?_;refine kK 1 ?_;refine kK 2 ?_;refine kK 3 ?_;refine kK 4 ?_;refine kK 5 ?_;refine kK 6 ?_;refine kK 7 ?_;refine kK 8 ?_;refine wpAnyH_done (by kernel_rfl) ?_ _;generalize wz.drew=wy at hst vv ⊢;obtain ⟨⟨cx,cy⟩,fx,fy⟩:=hst.cell;have vv:=zr vv;have hst:=hst.below (zr (Below.refl _ _));(go_wp2_with fail);refine wp_region_held_drew (S:=(fun W=>zcc W w.heap.size 0 (.slice (some ⟨b,off,none⟩) n c)∧zcc W w1.heap.size 0 (.int .i64 r.i)∧zcc W b (off+k*3) (.int .i64 x.i)∧zcc W b (off+k*3+1) (.int .i64 x.m)∧zcc W b (off+k*3+2) (.int .i64 x.b))) (by kernel_rfl) (⟨zf e0 vv,zf e1 vv,zf d0 vv,zf d1 vv,zf d2 vv⟩) (fun hHeld => ?_)
      repeat' first
      |
       with_reducible refine kLa ?_
       first
       |
        refine kLf 0 ?_;refine kK 0 ?_
       |
        refine kLf 2 ?_;refine kK 2 ?_
       |
        refine kLf 3 ?_;refine kK 3 ?_
       |
        refine kLf 4 ?_;refine kK 4 ?_
       |
        refine kLf 5 ?_;refine kK 5 ?_
       |
        refine kLf 6 ?_;refine kK 6 ?_
       |
        refine kLf 9 ?_;refine kK 9 ?_
       |
        refine kLp [1,7] ?_
       |
        refine kLp [7] ?_
       |
        refine kLp [8] ?_
       |
        refine kLp [10] ?_
       |
        refine kLp [1] ?_
       |
        refine wpAnyH_done (by kernel_rfl) ?_ _;go_wp2
        go_roundw
        case rel=>exact ⟨k+1,_,_,_,_,_,by omega,by go_num,rfl,hst,Eq.trans (by have t:=zdO (zs:=zs) (t:=v.rows.drop (k+1)) (d:=false) (by rw [hle]; rfl) hne; rw [hle] at t; exact t) HZ.out,by omega,vv⟩
        case measure=>simp [intOf]; omega
      |
       exact AllReadyH.nil
      |
       refine kLc 1 (fun K hK => ?_) ?_;go_simp;refine kO hK (⟨zf e0 vv,zf e1 vv,zf d0 vv,zf d1 vv,zf d2 vv⟩) fun hHeld => ?_
       clear hK K
      |
       refine kLc 7 (fun K hK => ?_) ?_;go_simp
       first
       | refine zac (K:=K _) (fun wx hk hbx => ?_)
       | refine zR (K:=K _) (fun wx hk hbx => ?_)
       have hst:=hst.below hbx;have vv:=zd vv hbx;obtain ⟨⟨cx,cy⟩,fx,fy⟩:=hst.cell;have hone:=zcK hk;clear hk hbx;refine kO hK (⟨zf e0 vv,zf e1 vv,zf d0 vv,zf d1 vv,zf d2 vv⟩) fun hHeld => ?_
       clear hK K
      |
       refine kLc 8 (fun K hK => ?_) ?_;refine zan (F:=vrowF) rfl _ _ 26 119 rfl w3.heap.size Tryz.underlying26 zaN rfl (by decide) _ _ _ rfl hst.rows _ 1 1 [x] rfl hone (by omega) vv.size ?_;intro ao8 cp8 wx how hrow hgr hbx;obtain ⟨⟨cx,fx⟩,hst⟩:=hst.push how hgr;have vv:=vv.trans hbx;clear how hrow hgr hbx hone;refine kO hK (⟨zf e0 vv,zf e1 vv,zf d0 vv,zf d1 vv,zf d2 vv⟩) fun hHeld => ?_
       clear hK K
      |
       refine kLc 10 (fun K hK => ?_) ?_;go_simp;have vv:=zg vv hX 0 (.slice ao8 (nr+1) cp8);refine kO hK (⟨zf e0 vv,zf e1 vv,zf d0 vv,zf d1 vv,zf d2 vv⟩) fun hHeld => ?_
       clear hK K
    ·(go_wp2_with fail);refine wp_region_held_drew (S:=(fun W=>zcc W w.heap.size 0 (.slice (some ⟨b,off,none⟩) n c)∧zcc W w1.heap.size 0 (.int .i64 r.i)∧zcc W b (off+k*3) (.int .i64 x.i)∧zcc W b (off+k*3+1) (.int .i64 x.m)∧zcc W b (off+k*3+2) (.int .i64 x.b))) (by kernel_rfl) (⟨zf e0 vv,zf e1 vv,zf d0 vv,zf d1 vv,zf d2 vv⟩) (fun hHeld => ?_);refine kK 0 ?_;refine kK 1 ?_;refine kK 2 ?_;refine kK 3 ?_;refine kK 4 ?_;refine kK 5 ?_;refine kK 6 ?_;refine kK 7 ?_;refine kK 8 ?_;refine kK 9 ?_;refine kK 10 ?_;refine kK 11 ?_;refine kK 12 ?_;refine wpAnyH_done (by kernel_rfl) ?_ _;generalize wr.drew=wq at hst vv ⊢;have g1:=zf e1 vv;have g2:=zf e2 vv;have g3:=zf e3 vv;obtain ⟨⟨cx,cy⟩,fx,fy⟩:=hst.cell;generalize hw8:World.alloc wq (Obj.cells #[Value.int .i64 r.i,Value.int .i64 r.m,Value.int .i64 r.b] 119)=w8;have b8:Below (World.heap wq).size wq w8:=by subst hw8; exact zh _ _
     have hst':=hst.below b8;have vv':=zd vv b8;have hone:GRow vrowF w8 (some ⟨(World.heap wq).size,0,none⟩) 1 1 [r]:=zcK (zk hw8);go_wp2_with (at_builtin; refine zw (F:=vrowF) _ rfl _ _ 26 119 rfl w3.heap.size Tryz.underlying26 zaN rfl (by decide) _ _ _ rfl hst'.rows _ 1 1 [r] rfl hone (by omega) vv'.size ?_)
     intro ao7 cp7 wx how hrow hgr hbx;obtain ⟨⟨cx,fx⟩,hst⟩:=hst'.push how hgr;have vv:=zg (vv'.trans hbx) hX 0 (.slice ao7 (nr+1) cp7);clear how hrow hgr hbx hone hst' vv' b8 hw8 g1 g2 g3 cy fy;(go_wp2_with fail);generalize World.setCell wx ⟨w5.heap.size,0,none⟩ (.slice ao7 (nr+1) cp7)=wz at hst vv ⊢;cases hne:(x.i != r.i)
     ·obtain ⟨⟨cx,cy⟩,fx,fy⟩:=hst.cell;have vv:=zr vv;have hst:=hst.below (zr (Below.refl _ _));(go_wp2_with fail);refine wp_region_held_drew (S:=(fun W=>zcc W w.heap.size 0 (.slice (some ⟨b,off,none⟩) n c)∧zcc W w1.heap.size 0 (.int .i64 r.i)∧zcc W b (off+k*3) (.int .i64 x.i)∧zcc W b (off+k*3+1) (.int .i64 x.m)∧zcc W b (off+k*3+2) (.int .i64 x.b))) (by kernel_rfl) (⟨zf e0 vv,zf e1 vv,zf d0 vv,zf d1 vv,zf d2 vv⟩) (fun hHeld => ?_);refine kK 0 ?_;refine kK 1 ?_;refine kK 2 ?_;refine kK 3 ?_;refine kK 4 ?_;refine kK 5 ?_;refine kK 6 ?_;refine kK 7 ?_;refine kK 8 ?_;refine wpAnyH_done (by kernel_rfl) ?_ _;go_wp2
      go_roundw
      case rel=>exact ⟨k+1,_,_,_,_,_,by omega,by go_num,rfl,hst,Eq.trans (by have t:=zfK (zs:=zs) (t:=v.rows.drop (k+1)) (d:=false) (by rw [hle]; rfl) hne; rw [hle] at t; exact t) HZ.out,by omega,vv⟩
      case measure=>simp [intOf]; omega
     ·obtain ⟨⟨cx,cy⟩,fx,fy⟩:=hst.cell;have vv:=zr vv;have hst:=hst.below (zr (Below.refl _ _));(go_wp2_with fail);refine wp_region_held_drew (S:=(fun W=>zcc W w.heap.size 0 (.slice (some ⟨b,off,none⟩) n c)∧zcc W w1.heap.size 0 (.int .i64 r.i)∧zcc W b (off+k*3) (.int .i64 x.i)∧zcc W b (off+k*3+1) (.int .i64 x.m)∧zcc W b (off+k*3+2) (.int .i64 x.b))) (by kernel_rfl) (⟨zf e0 vv,zf e1 vv,zf d0 vv,zf d1 vv,zf d2 vv⟩) (fun hHeld => ?_);refine kK 0 ?_;refine kK 1 ?_;refine kK 2 ?_;refine kK 3 ?_;refine kK 4 ?_;refine kK 5 ?_;refine kK 6 ?_;refine kK 7 ?_;refine kK 8 ?_;refine wpAnyH_done (by kernel_rfl) ?_ _;generalize wz.drew=wy at hst vv ⊢;obtain ⟨⟨cx,cy⟩,fx,fy⟩:=hst.cell;have vv:=zr vv;have hst:=hst.below (zr (Below.refl _ _));(go_wp2_with fail);refine wp_region_held_drew (S:=(fun W=>zcc W w.heap.size 0 (.slice (some ⟨b,off,none⟩) n c)∧zcc W w1.heap.size 0 (.int .i64 r.i)∧zcc W b (off+k*3) (.int .i64 x.i)∧zcc W b (off+k*3+1) (.int .i64 x.m)∧zcc W b (off+k*3+2) (.int .i64 x.b))) (by kernel_rfl) (⟨zf e0 vv,zf e1 vv,zf d0 vv,zf d1 vv,zf d2 vv⟩) (fun hHeld => ?_)
      repeat' first
      |
       with_reducible refine kLa ?_
       first
       |
        refine kLf 0 ?_;refine kK 0 ?_
       |
        refine kLf 2 ?_;refine kK 2 ?_
       |
        refine kLf 3 ?_;refine kK 3 ?_
       |
        refine kLf 4 ?_;refine kK 4 ?_
       |
        refine kLf 5 ?_;refine kK 5 ?_
       |
        refine kLf 6 ?_;refine kK 6 ?_
       |
        refine kLf 9 ?_;refine kK 9 ?_
       |
        refine kLp [1,7] ?_
       |
        refine kLp [7] ?_
       |
        refine kLp [8] ?_
       |
        refine kLp [10] ?_
       |
        refine kLp [1] ?_
       |
        refine wpAnyH_done (by kernel_rfl) ?_ _;go_wp2
        go_roundw
        case rel=>exact ⟨k+1,_,_,_,_,_,by omega,by go_num,rfl,hst,Eq.trans (by have t:=zfJ (zs:=zs) (t:=v.rows.drop (k+1)) (d:=false) (by rw [hle]; rfl) hne; rw [hle] at t; exact t) HZ.out,by omega,vv⟩
        case measure=>simp [intOf]; omega
      |
       exact AllReadyH.nil
      |
       refine kLc 1 (fun K hK => ?_) ?_;go_simp;refine kO hK (⟨zf e0 vv,zf e1 vv,zf d0 vv,zf d1 vv,zf d2 vv⟩) fun hHeld => ?_
       clear hK K
      |
       refine kLc 7 (fun K hK => ?_) ?_;go_simp
       first
       | refine zac (K:=K _) (fun wx hk hbx => ?_)
       | refine zR (K:=K _) (fun wx hk hbx => ?_)
       have hst:=hst.below hbx;have vv:=zd vv hbx;obtain ⟨⟨cx,cy⟩,fx,fy⟩:=hst.cell;have hone:=zcK hk;clear hk hbx;refine kO hK (⟨zf e0 vv,zf e1 vv,zf d0 vv,zf d1 vv,zf d2 vv⟩) fun hHeld => ?_
       clear hK K
      |
       refine kLc 8 (fun K hK => ?_) ?_;refine zan (F:=vrowF) rfl _ _ 26 119 rfl w3.heap.size Tryz.underlying26 zaN rfl (by decide) _ _ _ rfl hst.rows _ 1 1 [x] rfl hone (by omega) vv.size ?_;intro ao8 cp8 wx how hrow hgr hbx;obtain ⟨⟨cx,fx⟩,hst⟩:=hst.push how hgr;have vv:=vv.trans hbx;clear how hrow hgr hbx hone;refine kO hK (⟨zf e0 vv,zf e1 vv,zf d0 vv,zf d1 vv,zf d2 vv⟩) fun hHeld => ?_
       clear hK K
      |
       refine kLc 10 (fun K hK => ?_) ?_;go_simp;have vv:=zg vv hX 0 (.slice ao8 (nr+1+1) cp8);refine kO hK (⟨zf e0 vv,zf e1 vv,zf d0 vv,zf d1 vv,zf d2 vv⟩) fun hHeld => ?_
       clear hK K
   ·(go_wp2_with fail);refine wp_region_held_drew (S:=(fun W=>zcc W w.heap.size 0 (.slice (some ⟨b,off,none⟩) n c)∧zcc W w1.heap.size 0 (.int .i64 r.i)∧zcc W b (off+k*3) (.int .i64 x.i)∧zcc W b (off+k*3+1) (.int .i64 x.m)∧zcc W b (off+k*3+2) (.int .i64 x.b))) (by kernel_rfl) (⟨zf e0 vv,zf e1 vv,zf d0 vv,zf d1 vv,zf d2 vv⟩) (fun hHeld => ?_);refine kK 0 ?_;refine kK 1 ?_;refine kK 2 ?_;refine kN 3 ?_;refine kN 4 ?_;refine kN 5 ?_;refine kN 6 ?_;refine kN 7 ?_;refine kN 8 ?_;refine kN 9 ?_;refine kN 10 ?_;refine kN 11 ?_;refine kK 12 ?_;refine wpAnyH_done (by kernel_rfl) ?_ _;generalize wr.drew=wz at hst vv ⊢;(go_wp2_with fail);cases hne:(x.i != r.i)
    ·obtain ⟨⟨cx,cy⟩,fx,fy⟩:=hst.cell;have vv:=zr vv;have hst:=hst.below (zr (Below.refl _ _));(go_wp2_with fail);refine wp_region_held_drew (S:=(fun W=>zcc W w.heap.size 0 (.slice (some ⟨b,off,none⟩) n c)∧zcc W w1.heap.size 0 (.int .i64 r.i)∧zcc W b (off+k*3) (.int .i64 x.i)∧zcc W b (off+k*3+1) (.int .i64 x.m)∧zcc W b (off+k*3+2) (.int .i64 x.b))) (by kernel_rfl) (⟨zf e0 vv,zf e1 vv,zf d0 vv,zf d1 vv,zf d2 vv⟩) (fun hHeld => ?_);refine kK 0 ?_;refine kK 1 ?_;refine kK 2 ?_;refine kK 3 ?_;refine kK 4 ?_;refine kK 5 ?_;refine kK 6 ?_;refine kK 7 ?_;refine kK 8 ?_;refine wpAnyH_done (by kernel_rfl) ?_ _;go_wp2
     go_roundw
     case rel=>exact ⟨k+1,_,_,_,_,_,by omega,by go_num,rfl,hst,Eq.trans (zdP (zs:=zs) (t:=v.rows.drop (k+1)) (d:=true) rfl hne) HZ.out,by omega,vv⟩
     case measure=>simp [intOf]; omega
    ·obtain ⟨⟨cx,cy⟩,fx,fy⟩:=hst.cell;have vv:=zr vv;have hst:=hst.below (zr (Below.refl _ _));(go_wp2_with fail);refine wp_region_held_drew (S:=(fun W=>zcc W w.heap.size 0 (.slice (some ⟨b,off,none⟩) n c)∧zcc W w1.heap.size 0 (.int .i64 r.i)∧zcc W b (off+k*3) (.int .i64 x.i)∧zcc W b (off+k*3+1) (.int .i64 x.m)∧zcc W b (off+k*3+2) (.int .i64 x.b))) (by kernel_rfl) (⟨zf e0 vv,zf e1 vv,zf d0 vv,zf d1 vv,zf d2 vv⟩) (fun hHeld => ?_);refine kK 0 ?_;refine kK 1 ?_;refine kK 2 ?_;refine kK 3 ?_;refine kK 4 ?_;refine kK 5 ?_;refine kK 6 ?_;refine kK 7 ?_;refine kK 8 ?_;refine wpAnyH_done (by kernel_rfl) ?_ _;generalize wz.drew=wy at hst vv ⊢;obtain ⟨⟨cx,cy⟩,fx,fy⟩:=hst.cell;have vv:=zr vv;have hst:=hst.below (zr (Below.refl _ _));(go_wp2_with fail);refine wp_region_held_drew (S:=(fun W=>zcc W w.heap.size 0 (.slice (some ⟨b,off,none⟩) n c)∧zcc W w1.heap.size 0 (.int .i64 r.i)∧zcc W b (off+k*3) (.int .i64 x.i)∧zcc W b (off+k*3+1) (.int .i64 x.m)∧zcc W b (off+k*3+2) (.int .i64 x.b))) (by kernel_rfl) (⟨zf e0 vv,zf e1 vv,zf d0 vv,zf d1 vv,zf d2 vv⟩) (fun hHeld => ?_)
     repeat' first
     |
      with_reducible refine kLa ?_
      first
      |
       refine kLf 0 ?_;refine kK 0 ?_
      |
       refine kLf 2 ?_;refine kK 2 ?_
      |
       refine kLf 3 ?_;refine kK 3 ?_
      |
       refine kLf 4 ?_;refine kK 4 ?_
      |
       refine kLf 5 ?_;refine kK 5 ?_
      |
       refine kLf 6 ?_;refine kK 6 ?_
      |
       refine kLf 9 ?_;refine kK 9 ?_
      |
       refine kLp [1,7] ?_
      |
       refine kLp [7] ?_
      |
       refine kLp [8] ?_
      |
       refine kLp [10] ?_
      |
       refine kLp [1] ?_
      |
       refine wpAnyH_done (by kernel_rfl) ?_ _;go_wp2
       go_roundw
       case rel=>exact ⟨k+1,_,_,_,_,_,by omega,by go_num,rfl,hst,Eq.trans (zdO (zs:=zs) (t:=v.rows.drop (k+1)) (d:=true) rfl hne) HZ.out,by omega,vv⟩
       case measure=>simp [intOf]; omega
     |
      exact AllReadyH.nil
     |
      refine kLc 1 (fun K hK => ?_) ?_;go_simp;refine kO hK (⟨zf e0 vv,zf e1 vv,zf d0 vv,zf d1 vv,zf d2 vv⟩) fun hHeld => ?_
      clear hK K
     |
      refine kLc 7 (fun K hK => ?_) ?_;go_simp
      first
      | refine zac (K:=K _) (fun wx hk hbx => ?_)
      | refine zR (K:=K _) (fun wx hk hbx => ?_)
      have hst:=hst.below hbx;have vv:=zd vv hbx;obtain ⟨⟨cx,cy⟩,fx,fy⟩:=hst.cell;have hone:=zcK hk;clear hk hbx;refine kO hK (⟨zf e0 vv,zf e1 vv,zf d0 vv,zf d1 vv,zf d2 vv⟩) fun hHeld => ?_
      clear hK K
     |
      refine kLc 8 (fun K hK => ?_) ?_;refine zan (F:=vrowF) rfl _ _ 26 119 rfl w3.heap.size Tryz.underlying26 zaN rfl (by decide) _ _ _ rfl hst.rows _ 1 1 [x] rfl hone (by omega) vv.size ?_;intro ao8 cp8 wx how hrow hgr hbx;obtain ⟨⟨cx,fx⟩,hst⟩:=hst.push how hgr;have vv:=vv.trans hbx;clear how hrow hgr hbx hone;refine kO hK (⟨zf e0 vv,zf e1 vv,zf d0 vv,zf d1 vv,zf d2 vv⟩) fun hHeld => ?_
      clear hK K
     |
      refine kLc 10 (fun K hK => ?_) ?_;go_simp;have vv:=zg vv hX 0 (.slice ao8 (nr+1) cp8);refine kO hK (⟨zf e0 vv,zf e1 vv,zf d0 vv,zf d1 vv,zf d2 vv⟩) fun hHeld => ?_
      clear hK K
  ·have hkn:n=k:=by omega
   subst hkn;have hd0:v.rows.drop n=[]:=List.drop_eq_nil_of_le (by omega);rw [hd0] at hzs;cases d
   ·have hz:zs++[r]=zy v.rows r false:=by simpa [zy] using hzs
    have HZ:=hide hz;clear hz hzs hd0;have g1:=zf e1 vv;have g2:=zf e2 vv;have g3:=zf e3 vv;obtain ⟨⟨cx,cy⟩,fx,fy⟩:=hst.cell;generalize hw8:World.alloc wr (Obj.cells #[Value.int .i64 r.i,Value.int .i64 r.m,Value.int .i64 r.b] 119)=w8;have b8:Below (World.heap wr).size wr w8:=by subst hw8; exact zh _ _
    have hst':=hst.below b8;have vv':=zd vv b8;have hone:GRow vrowF w8 (some ⟨(World.heap wr).size,0,none⟩) 1 1 [r]:=zcK (zk hw8);go_wp2_with (at_builtin; refine zw (F:=vrowF) _ rfl _ _ 26 119 rfl w3.heap.size Tryz.underlying26 zaN rfl (by decide) _ _ _ rfl hst'.rows _ 1 1 [r] rfl hone (by omega) vv'.size ?_)
    intro ao7 cp7 wx how hrow hgr hbx;obtain ⟨⟨cx,fx⟩,hst⟩:=hst'.push how hgr;have vv:=zg (vv'.trans hbx) hX 0 (.slice ao7 (nr+1) cp7);clear how hrow hgr hbx hone hst' vv' b8 hw8 g1 g2 g3 cy fy;generalize hw9:World.setCell wx ⟨w5.heap.size,0,none⟩ (.slice ao7 (nr+1) cp7)=wz at hst vv;obtain ⟨⟨cx,cy⟩,fx,fy⟩:=hst.cell;obtain ⟨⟨g0,g1⟩,y0,y1⟩:=zU (ze k2 vv);have hO:=((⟨hst.rows,hst.own,h.own.byte⟩:VOwn _ w3.heap.size _ _ _ oo p qq ⟨zs++[r],v.own⟩).set2 (g:=w2.heap.size) z3.out (.slice ao7 (nr+1) cp7) (.slice oo p qq)).lt (base':=w.heap.size) b03.size;have hbW:=zg (zg (zd b03 vv) (zd b01 b12).size 0 (.slice ao7 (nr+1) cp7)) (zd b01 b12).size 1 (.slice oo p qq);rw [HZ.out] at hO;have HO:=hide hO;clear hO hst;go_wp2;exact bodyPost_ret (v:=.agg #[.slice ao7 (nr+1) cp7,.slice oo p qq]) (by simp [results,Tryz.results204,go_sem, *]) rfl ⟨_,_,_,_,_,rfl,HO.out,hbW⟩
   ·have hz:zs=zy v.rows r false:=by simpa [zy] using hzs
    have HZ:=hide hz;clear hz hzs hd0;obtain ⟨⟨cx,cy⟩,fx,fy⟩:=hst.cell;obtain ⟨⟨g0,g1⟩,y0,y1⟩:=zU (ze k2 vv);have hO:=((⟨hst.rows,hst.own,h.own.byte⟩:VOwn _ w3.heap.size _ _ _ oo p qq ⟨zs,v.own⟩).set2 (g:=w2.heap.size) z3.out (.slice ar nr cr) (.slice oo p qq)).lt (base':=w.heap.size) b03.size;have hbW:=zg (zg (zd b03 vv) (zd b01 b12).size 0 (.slice ar nr cr)) (zd b01 b12).size 1 (.slice oo p qq);rw [HZ.out] at hO;have HO:=hide hO;clear hO hst;go_wp2;exact bodyPost_ret (v:=.agg #[.slice ar nr cr,.slice oo p qq]) (by simp [results,Tryz.results204,go_sem, *]) rfl ⟨_,_,_,_,_,rfl,HO.out,hbW⟩

end Go.Proofs.YtcpdkcdfnpcemaaGreat
