/-
  A row put in its place, as the specification has it.
-/
import Derived.Test.YtljbdmlgfggadaaGreatPGK11
namespace Go.Proofs.YtljbdmlgfggadaaGreat
set_option maxRecDepth 100000
set_option maxHeartbeats 16000000
open Go.RowKit

abbrev q226:Oper:=⟨some 20,.move (.tmp 6),4,"l09_vlan.go:87",#[],none⟩
abbrev q227:Oper:=⟨some 21,.unOp .not 4 (.tmp 20),4,"l09_vlan.go:87",#[⟨0,.data⟩],none⟩
abbrev q228:Oper:=⟨some 22,.move (.tmp 21),4,"l09_vlan.go:87",#[⟨1,.data⟩],none⟩
abbrev q229:Oper:=⟨some 23,.fieldAddr 29 (.tmp 2) 0,0,"l09_vlan.go:87",#[⟨2,.guard⟩],some (2,true)⟩
abbrev q230:Oper:=⟨some 24,.load 26 (.tmp 23),26,"l09_vlan.go:87",#[⟨3,.data⟩,⟨2,.guard⟩],some (2,true)⟩
abbrev q231:Oper:=⟨some 25,.move (.tmp 7),3,"l09_vlan.go:87",#[⟨2,.guard⟩],some (2,true)⟩
abbrev q232:Oper:=⟨some 26,.indexAddr 26 (.tmp 24) (.tmp 25),0,"l09_vlan.go:87",#[⟨4,.data⟩,⟨5,.data⟩,⟨2,.guard⟩],some (2,true)⟩
abbrev q233:Oper:=⟨some 27,.fieldAddr 82 (.tmp 26) 0,0,"l09_vlan.go:87",#[⟨6,.data⟩,⟨2,.guard⟩],some (2,true)⟩
abbrev q234:Oper:=⟨some 28,.load 3 (.tmp 27),3,"l09_vlan.go:87",#[⟨7,.data⟩,⟨2,.guard⟩],some (2,true)⟩
abbrev q235:Oper:=⟨some 29,.fieldAddr 82 (.tmp 3) 0,0,"l09_vlan.go:87",#[⟨2,.guard⟩],some (2,true)⟩
abbrev q236:Oper:=⟨some 30,.load 3 (.tmp 29),3,"l09_vlan.go:87",#[⟨9,.data⟩,⟨2,.guard⟩],some (2,true)⟩
abbrev q237:Oper:=⟨some 31,.binOp .geq 3 (.tmp 28) (.tmp 30) 3,4,"l09_vlan.go:87",#[⟨8,.data⟩,⟨10,.data⟩,⟨2,.guard⟩],some (2,true)⟩
abbrev q238:Oper:=⟨some 32,.pick (.tmp 22) (.tmp 31) (.const (.bool false)),4,"l09_vlan.go:87",#[⟨2,.data⟩,⟨11,.data⟩],none⟩
abbrev q239:Oper:=⟨some 39,.fieldAddr 29 (.tmp 2) 0,0,"l09_vlan.go:91",#[],none⟩
abbrev q240:Oper:=⟨some 40,.load 26 (.tmp 39),26,"l09_vlan.go:91",#[⟨0,.data⟩],none⟩
abbrev q241:Oper:=⟨some 41,.move (.tmp 7),3,"l09_vlan.go:91",#[],none⟩
abbrev q242:Oper:=⟨some 42,.indexAddr 26 (.tmp 40) (.tmp 41),0,"l09_vlan.go:91",#[⟨1,.data⟩,⟨2,.data⟩],none⟩
abbrev q243:Oper:=⟨some 43,.fieldAddr 82 (.tmp 42) 0,0,"l09_vlan.go:91",#[⟨3,.data⟩],none⟩
abbrev q244:Oper:=⟨some 44,.load 3 (.tmp 43),3,"l09_vlan.go:91",#[⟨4,.data⟩],none⟩
abbrev q245:Oper:=⟨some 45,.fieldAddr 82 (.tmp 3) 0,0,"l09_vlan.go:91",#[],none⟩
abbrev q246:Oper:=⟨some 46,.load 3 (.tmp 45),3,"l09_vlan.go:91",#[⟨6,.data⟩],none⟩
abbrev q247:Oper:=⟨some 47,.binOp .neq 3 (.tmp 44) (.tmp 46) 3,4,"l09_vlan.go:91",#[⟨5,.data⟩,⟨7,.data⟩],none⟩
abbrev q248:Oper:=⟨some 48,.fieldAddr 29 (.tmp 5) 0,0,"l09_vlan.go:92",#[],none⟩
abbrev q249:Oper:=⟨some 50,.fieldAddr 29 (.tmp 2) 0,0,"l09_vlan.go:92",#[],none⟩
abbrev q250:Oper:=⟨some 51,.load 26 (.tmp 50),26,"l09_vlan.go:92",#[⟨2,.data⟩],none⟩
abbrev q251:Oper:=⟨some 52,.move (.tmp 7),3,"l09_vlan.go:92",#[],none⟩
abbrev q252:Oper:=⟨some 53,.indexAddr 26 (.tmp 51) (.tmp 52),0,"l09_vlan.go:92",#[⟨3,.data⟩,⟨4,.data⟩],none⟩
abbrev q253:Oper:=⟨some 54,.load 82 (.tmp 53),82,"l09_vlan.go:92",#[⟨5,.data⟩],none⟩
abbrev q254:Oper:=⟨some 49,.load 26 (.tmp 48),26,"l09_vlan.go:92",#[⟨0,.data⟩],none⟩
abbrev q255:Oper:=⟨some 55,.buildSlice 26 1 #[(0,.tmp 54)],26,"l09_vlan.go:92",#[⟨6,.data⟩],none⟩
abbrev q256:Oper:=⟨some 56,.call ⟨.builtin .append,#[.tmp 49,.tmp 55],#[26,26]⟩,26,"l09_vlan.go:92",#[⟨1,.data⟩,⟨7,.data⟩],none⟩
abbrev q257:Oper:=⟨some 57,.fieldAddr 29 (.tmp 5) 0,0,"l09_vlan.go:92",#[⟨0,.phase⟩,⟨1,.phase⟩,⟨2,.phase⟩,⟨3,.phase⟩,⟨4,.phase⟩,⟨5,.phase⟩,⟨6,.phase⟩,⟨7,.phase⟩,⟨8,.phase⟩],none⟩
abbrev q258:Oper:=⟨none,.store 26 (.tmp 57) (.tmp 56),0,"l09_vlan.go:92",#[⟨9,.data⟩,⟨8,.data⟩,⟨8,.chain⟩,⟨0,.phase⟩,⟨1,.phase⟩,⟨2,.phase⟩,⟨3,.phase⟩,⟨4,.phase⟩,⟨5,.phase⟩,⟨6,.phase⟩,⟨7,.phase⟩,⟨8,.phase⟩],none⟩

theorem zbK {w:World} {b:Nat} {x:VR} (h:w.heap[b]?=some (.cells #[.int .i64 x.i,.int .i64 x.m,.int .i64 x.b] 82)):GRow vrowF w (some ⟨b,0,none⟩) 1 1 [x]:=by
 have hc:=(zdh h).1;refine ⟨rfl,Nat.le_refl _,by unfold maxLen; omega,(by intro h; cases h),.inr ⟨b,0,rfl,fun i y hi j v hv => ?_⟩⟩
 match i,hi with
 | 0,hi =>
  cases hi
  match j,hv with
  | 0,hv=>cases hv; exact hc.1
  | 1,hv=>cases hv; exact hc.2.1
  | 2,hv=>cases hv; exact hc.2.2
  | j+3,hv=>simp [vrowF] at hv
 | i+1,hi=>simp at hi

theorem zgH {l:List VR} {k:Nat} {x:VR} (h:l[k]?=some x):l.drop k=x::l.drop (k+1):=by
 obtain ⟨hk,rfl⟩:=List.getElem?_eq_some_iff.1 h;exact List.drop_eq_getElem_cons hk

theorem zfy (a:Option Addr) (n c:Nat) (o:Option Addr) (p q:Nat) (v:VT) (r:VR) (w:World) (h:VTab w a n c o p q v) (hn:n≤16777216) (hp:p≤16777216) :
  Calls Tryz.prog 145 #[.agg #[.slice a n c,.slice o p q],.agg #[.int .i64 r.i,.int .i64 r.m,.int .i64 r.b]] w fun e w'=>∃a' n' c' o' q',e=.returned (.agg #[.slice a' n' c',.slice o' p q'])∧VOwn w' w.heap.size a' n' c' o' p q' ⟨zL v.rows r false,v.own⟩∧Below w.heap.size w w':=by
 generalize hw1:w.alloc (Obj.cells #[Value.slice a n c,Value.slice o p q] 29)=w1;generalize hw2:w1.alloc (Obj.cells #[Value.int .i64 r.i,Value.int .i64 r.m,Value.int .i64 r.b] 82)=w2;generalize hw3:w2.alloc (Obj.cells #[Value.slice none 0 0,Value.slice none 0 0] 29)=w3;have b01:=zb hw1;have b12:=zb hw2;have b23:=zb hw3;have b13:=zd b12 b23;have b03:=zd b01 b13;have k2:=zk hw3;have z3:Hid (w2.heap.size < w3.heap.size):=hide (by rw [← hw3]; simp);obtain ⟨e0,e0'⟩:=zD hw1 b13;have kr:w3.heap[w1.heap.size]?=some (.cells #[.int .i64 r.i,.int .i64 r.m,.int .i64 r.b] 82):=ze (by rw [← hw2]; exact zB _ _:w2.heap[w1.heap.size]?=_) b23;obtain ⟨⟨e1,e2,e3⟩,-⟩:=zdh kr;have h3:=h.below b03;have hl:=h.rows.size;generalize hw4:w3.alloc (Obj.cells #[] 3)=w4;have b34:=zb hw4;have k4:=zk hw4;have e4:=zf e0' b34;have hI:=zaK intF w3 w4 3 _ k4 (Nat.le_refl _);go_enter Tryz.func145,Tryz.ntmps145;go_wp2_with (at_builtin; refine zx (F:=intF) _ rfl _ _ 27 3 rfl w3.heap.size Tryz.underlying27 Tryz.infoI64 rfl (by decide) _ 0 [] rfl hI o p q v.own rfl ((h3.own.below b34).flat) (by omega) b34.size ?_)
 intro oo qq w5 how hrow hgr hb5;have hI:w5.ownsRow w3.heap.size 3 1 (.slice oo p qq) p (cI v.own):=by rw [← zG]; exact how
 have v5:Below w3.heap.size w3 w5:=b34.trans hb5;clear how hrow hgr hb5;generalize hw6:w5.alloc (Obj.cells #[Value.slice none 0 0,Value.slice oo p qq] 29)=w6;have v6:Below w3.heap.size w3 w6:=by subst hw6; exact zdB v5 _
 have hst:RowSt w3.heap.size w6 w5.heap.size none 0 0 oo p qq v.own []:=⟨by rw [← hw6]; exact zB _ _,⟨by simp [Flat.all],.inl ⟨rfl,rfl⟩⟩,by subst hw6; exact zm hI (zh _ _)⟩;have hX:=v5.size;go_wp2_with fail
 go_loopw [6,7] (fun dn i wr=>∃(k:Nat) (ar:Option Addr) (nr cr:Nat) (d:Bool) (zs:List VR),k≤n∧i=.int .i64 k∧dn=.bool d∧RowSt w3.heap.size wr w5.heap.size ar nr cr oo p qq v.own zs∧zs++zL (v.rows.drop k) r d=zL v.rows r false∧nr≤2*k∧Below w3.heap.size w3 wr) (fun _ i _=>n - (intOf i).toNat)
 case atStart=>exact ⟨0,none,0,0,false,[],Nat.zero_le _,rfl,rfl,hst,rfl,Nat.zero_le _,v6⟩
 case round =>
  clear hst v6 hw6 hw4 k4 e4 hI;obtain ⟨k,ar,nr,cr,d,zs,hk,rfl,rfl,hst,hzs,hnr,vv⟩:=hrel;have f0:=zf e0 vv;obtain ⟨⟨cx,cy⟩,fx,fy⟩:=hst.cell;by_cases hlt:k < n
  ·obtain ⟨x,b,off,hx,rfl,d0,d1,d2⟩:=zaJ h3.rows k hlt;have i1:(0:Int)≤(k:Int):=by omega
   have i2:(k:Int) < (n:Int):=by omega
   have hdrop:v.rows.drop k=x::v.rows.drop (k+1):=zgH hx;rw [hdrop] at hzs;have HZ:=hide hzs;clear hzs hdrop;have vv:=zw vv;have hst:=hst.below (zw (Below.refl _ _));cases d
   ·cases hle:decide (r.i≤x.i)
    ·(go_wp2_with fail);refine wp_region_held_drew (S:=(fun W=>zcc W w.heap.size 0 (.slice (some ⟨b,off,none⟩) n c)∧zcc W w1.heap.size 0 (.int .i64 r.i)∧zcc W b (off+k*3) (.int .i64 x.i)∧zcc W b (off+k*3+1) (.int .i64 x.m)∧zcc W b (off+k*3+2) (.int .i64 x.b))) (by kernel_rfl) (⟨zf e0 vv,zf e1 vv,zf d0 vv,zf d1 vv,zf d2 vv⟩) (fun hHeld => ?_);refine kK 0 q226 ?_;refine kK 1 q227 ?_;refine kK 2 q228 ?_;refine kK 3 q229 ?_;refine kK 4 q230 ?_;refine kK 5 q231 ?_;refine kK 6 q232 ?_;refine kK 7 q233 ?_;refine kK 8 q234 ?_;refine kK 9 q235 ?_;refine kK 10 q236 ?_;refine kK 11 q237 ?_;refine kK 12 q238 ?_;refine wpAnyH_done (by kernel_rfl) ?_ _;generalize wr.drew=wz at hst vv ⊢;(go_wp2_with fail);cases hne:(x.i != r.i)
     ·obtain ⟨⟨cx,cy⟩,fx,fy⟩:=hst.cell;have vv:=zw vv;have hst:=hst.below (zw (Below.refl _ _));(go_wp2_with fail);refine wp_region_held_drew (S:=(fun W=>zcc W w.heap.size 0 (.slice (some ⟨b,off,none⟩) n c)∧zcc W w1.heap.size 0 (.int .i64 r.i)∧zcc W b (off+k*3) (.int .i64 x.i)∧zcc W b (off+k*3+1) (.int .i64 x.m)∧zcc W b (off+k*3+2) (.int .i64 x.b))) (by kernel_rfl) (⟨zf e0 vv,zf e1 vv,zf d0 vv,zf d1 vv,zf d2 vv⟩) (fun hHeld => ?_);refine kK 0 q239 ?_;refine kK 1 q240 ?_;refine kK 2 q241 ?_;refine kK 3 q242 ?_;refine kK 4 q243 ?_;refine kK 5 q244 ?_;refine kK 6 q245 ?_;refine kK 7 q246 ?_;refine kK 8 q247 ?_;refine wpAnyH_done (by kernel_rfl) ?_ _;go_wp2
      go_roundw
      case rel=>exact ⟨k+1,_,_,_,_,_,by omega,by go_num,rfl,hst,Eq.trans (by have t:=zd6 (zs:=zs) (t:=v.rows.drop (k+1)) (d:=false) (by rw [hle]; rfl) hne; rw [hle] at t; exact t) HZ.out,by omega,vv⟩
      case measure=>simp [intOf]; omega
     ·obtain ⟨⟨cx,cy⟩,fx,fy⟩:=hst.cell;have vv:=zw vv;have hst:=hst.below (zw (Below.refl _ _));(go_wp2_with fail);refine wp_region_held_drew (S:=(fun W=>zcc W w.heap.size 0 (.slice (some ⟨b,off,none⟩) n c)∧zcc W w1.heap.size 0 (.int .i64 r.i)∧zcc W b (off+k*3) (.int .i64 x.i)∧zcc W b (off+k*3+1) (.int .i64 x.m)∧zcc W b (off+k*3+2) (.int .i64 x.b))) (by kernel_rfl) (⟨zf e0 vv,zf e1 vv,zf d0 vv,zf d1 vv,zf d2 vv⟩) (fun hHeld => ?_);refine kK 0 q239 ?_;refine kK 1 q240 ?_;refine kK 2 q241 ?_;refine kK 3 q242 ?_;refine kK 4 q243 ?_;refine kK 5 q244 ?_;refine kK 6 q245 ?_;refine kK 7 q246 ?_;refine kK 8 q247 ?_;refine wpAnyH_done (by kernel_rfl) ?_ _;generalize wz.drew=wy at hst vv ⊢;obtain ⟨⟨cx,cy⟩,fx,fy⟩:=hst.cell;have vv:=zw vv;have hst:=hst.below (zw (Below.refl _ _));(go_wp2_with fail);refine wp_region_held_drew (S:=(fun W=>zcc W w.heap.size 0 (.slice (some ⟨b,off,none⟩) n c)∧zcc W w1.heap.size 0 (.int .i64 r.i)∧zcc W b (off+k*3) (.int .i64 x.i)∧zcc W b (off+k*3+1) (.int .i64 x.m)∧zcc W b (off+k*3+2) (.int .i64 x.b))) (by kernel_rfl) (⟨zf e0 vv,zf e1 vv,zf d0 vv,zf d1 vv,zf d2 vv⟩) (fun hHeld => ?_);refine kK 0 q248 ?_;refine kK 2 q249 ?_;refine kK 3 q250 ?_;refine kK 4 q251 ?_;refine kK 5 q252 ?_;refine kK 6 q253 ?_;refine tR [1,7] ?_;refine AllReadyH.cons (o:=q254) rfl (fun K hK => ?_) ?_
      ·go_simp;refine kO hK (⟨zf e0 vv,zf e1 vv,zf d0 vv,zf d1 vv,zf d2 vv⟩) fun hHeld => ?_
       clear hK K;refine kR 7 q255 (fun K hK => ?_);go_simp
       first
       | refine zaq (K:=K _) (fun wx hk hbx => ?_)
       | refine zal (K:=K _) (fun wx hk hbx => ?_)
       have hst:=hst.below hbx;have vv:=zd vv hbx;obtain ⟨⟨cx,cy⟩,fx,fy⟩:=hst.cell;have hone:=zbK hk;clear hk hbx;refine kO hK (⟨zf e0 vv,zf e1 vv,zf d0 vv,zf d1 vv,zf d2 vv⟩) fun hHeld => ?_
       clear hK K;refine kR 8 q256 (fun K hK => ?_);refine zH (F:=vrowF) rfl _ _ 26 82 rfl w3.heap.size Tryz.underlying26 zaT rfl (by decide) _ _ _ rfl hst.rows _ 1 1 [x] rfl hone (by omega) vv.size ?_;intro ao8 cp8 wx how hrow hgr hbx;obtain ⟨⟨cx,fx⟩,hst⟩:=hst.push how hgr;have vv:=vv.trans hbx;clear how hrow hgr hbx hone;refine kO hK (⟨zf e0 vv,zf e1 vv,zf d0 vv,zf d1 vv,zf d2 vv⟩) fun hHeld => ?_
       clear hK K;refine kK 9 q257 ?_;refine kR 10 q258 (fun K hK => ?_);go_simp;have vv:=zj vv hX 0 (.slice ao8 (nr+1) cp8);refine kO hK (⟨zf e0 vv,zf e1 vv,zf d0 vv,zf d1 vv,zf d2 vv⟩) fun hHeld => ?_
       clear hK K;refine wpAnyH_done (by kernel_rfl) ?_ _;go_wp2
       go_roundw
       case rel=>exact ⟨k+1,_,_,_,_,_,by omega,by go_num,rfl,hst,Eq.trans (by have t:=zb9 (zs:=zs) (t:=v.rows.drop (k+1)) (d:=false) (by rw [hle]; rfl) hne; rw [hle] at t; exact t) HZ.out,by omega,vv⟩
       case measure=>simp [intOf]; omega
      refine AllReadyH.cons (o:=q255) rfl (fun K hK => ?_) ?_
      ·go_simp
       first
       | refine zaq (K:=K _) (fun wx hk hbx => ?_)
       | refine zal (K:=K _) (fun wx hk hbx => ?_)
       have hst:=hst.below hbx;have vv:=zd vv hbx;obtain ⟨⟨cx,cy⟩,fx,fy⟩:=hst.cell;have hone:=zbK hk;clear hk hbx;refine kO hK (⟨zf e0 vv,zf e1 vv,zf d0 vv,zf d1 vv,zf d2 vv⟩) fun hHeld => ?_
       clear hK K;refine kR 1 q254 (fun K hK => ?_);go_simp;refine kO hK (⟨zf e0 vv,zf e1 vv,zf d0 vv,zf d1 vv,zf d2 vv⟩) fun hHeld => ?_
       clear hK K;refine kR 8 q256 (fun K hK => ?_);refine zH (F:=vrowF) rfl _ _ 26 82 rfl w3.heap.size Tryz.underlying26 zaT rfl (by decide) _ _ _ rfl hst.rows _ 1 1 [x] rfl hone (by omega) vv.size ?_;intro ao8 cp8 wx how hrow hgr hbx;obtain ⟨⟨cx,fx⟩,hst⟩:=hst.push how hgr;have vv:=vv.trans hbx;clear how hrow hgr hbx hone;refine kO hK (⟨zf e0 vv,zf e1 vv,zf d0 vv,zf d1 vv,zf d2 vv⟩) fun hHeld => ?_
       clear hK K;refine kK 9 q257 ?_;refine kR 10 q258 (fun K hK => ?_);go_simp;have vv:=zj vv hX 0 (.slice ao8 (nr+1) cp8);refine kO hK (⟨zf e0 vv,zf e1 vv,zf d0 vv,zf d1 vv,zf d2 vv⟩) fun hHeld => ?_
       clear hK K;refine wpAnyH_done (by kernel_rfl) ?_ _;go_wp2
       go_roundw
       case rel=>exact ⟨k+1,_,_,_,_,_,by omega,by go_num,rfl,hst,Eq.trans (by have t:=zb9 (zs:=zs) (t:=v.rows.drop (k+1)) (d:=false) (by rw [hle]; rfl) hne; rw [hle] at t; exact t) HZ.out,by omega,vv⟩
       case measure=>simp [intOf]; omega
      exact AllReadyH.nil
    ·(go_wp2_with fail);refine wp_region_held_drew (S:=(fun W=>zcc W w.heap.size 0 (.slice (some ⟨b,off,none⟩) n c)∧zcc W w1.heap.size 0 (.int .i64 r.i)∧zcc W b (off+k*3) (.int .i64 x.i)∧zcc W b (off+k*3+1) (.int .i64 x.m)∧zcc W b (off+k*3+2) (.int .i64 x.b))) (by kernel_rfl) (⟨zf e0 vv,zf e1 vv,zf d0 vv,zf d1 vv,zf d2 vv⟩) (fun hHeld => ?_);refine kK 0 q226 ?_;refine kK 1 q227 ?_;refine kK 2 q228 ?_;refine kK 3 q229 ?_;refine kK 4 q230 ?_;refine kK 5 q231 ?_;refine kK 6 q232 ?_;refine kK 7 q233 ?_;refine kK 8 q234 ?_;refine kK 9 q235 ?_;refine kK 10 q236 ?_;refine kK 11 q237 ?_;refine kK 12 q238 ?_;refine wpAnyH_done (by kernel_rfl) ?_ _;generalize wr.drew=wq at hst vv ⊢;have g1:=zf e1 vv;have g2:=zf e2 vv;have g3:=zf e3 vv;obtain ⟨⟨cx,cy⟩,fx,fy⟩:=hst.cell;generalize hw8:World.alloc wq (Obj.cells #[Value.int .i64 r.i,Value.int .i64 r.m,Value.int .i64 r.b] 82)=w8;have b8:Below (World.heap wq).size wq w8:=by subst hw8; exact zh _ _
     have hst':=hst.below b8;have vv':=zd vv b8;have hone:GRow vrowF w8 (some ⟨(World.heap wq).size,0,none⟩) 1 1 [r]:=zbK (zk hw8);go_wp2_with (at_builtin; refine zx (F:=vrowF) _ rfl _ _ 26 82 rfl w3.heap.size Tryz.underlying26 zaT rfl (by decide) _ _ _ rfl hst'.rows _ 1 1 [r] rfl hone (by omega) vv'.size ?_)
     intro ao7 cp7 wx how hrow hgr hbx;obtain ⟨⟨cx,fx⟩,hst⟩:=hst'.push how hgr;have vv:=zj (vv'.trans hbx) hX 0 (.slice ao7 (nr+1) cp7);clear how hrow hgr hbx hone hst' vv' b8 hw8 g1 g2 g3 cy fy;(go_wp2_with fail);generalize World.setCell wx ⟨w5.heap.size,0,none⟩ (.slice ao7 (nr+1) cp7)=wz at hst vv ⊢;cases hne:(x.i != r.i)
     ·obtain ⟨⟨cx,cy⟩,fx,fy⟩:=hst.cell;have vv:=zw vv;have hst:=hst.below (zw (Below.refl _ _));(go_wp2_with fail);refine wp_region_held_drew (S:=(fun W=>zcc W w.heap.size 0 (.slice (some ⟨b,off,none⟩) n c)∧zcc W w1.heap.size 0 (.int .i64 r.i)∧zcc W b (off+k*3) (.int .i64 x.i)∧zcc W b (off+k*3+1) (.int .i64 x.m)∧zcc W b (off+k*3+2) (.int .i64 x.b))) (by kernel_rfl) (⟨zf e0 vv,zf e1 vv,zf d0 vv,zf d1 vv,zf d2 vv⟩) (fun hHeld => ?_);refine kK 0 q239 ?_;refine kK 1 q240 ?_;refine kK 2 q241 ?_;refine kK 3 q242 ?_;refine kK 4 q243 ?_;refine kK 5 q244 ?_;refine kK 6 q245 ?_;refine kK 7 q246 ?_;refine kK 8 q247 ?_;refine wpAnyH_done (by kernel_rfl) ?_ _;go_wp2
      go_roundw
      case rel=>exact ⟨k+1,_,_,_,_,_,by omega,by go_num,rfl,hst,Eq.trans (by have t:=zf0 (zs:=zs) (t:=v.rows.drop (k+1)) (d:=false) (by rw [hle]; rfl) hne; rw [hle] at t; exact t) HZ.out,by omega,vv⟩
      case measure=>simp [intOf]; omega
     ·obtain ⟨⟨cx,cy⟩,fx,fy⟩:=hst.cell;have vv:=zw vv;have hst:=hst.below (zw (Below.refl _ _));(go_wp2_with fail);refine wp_region_held_drew (S:=(fun W=>zcc W w.heap.size 0 (.slice (some ⟨b,off,none⟩) n c)∧zcc W w1.heap.size 0 (.int .i64 r.i)∧zcc W b (off+k*3) (.int .i64 x.i)∧zcc W b (off+k*3+1) (.int .i64 x.m)∧zcc W b (off+k*3+2) (.int .i64 x.b))) (by kernel_rfl) (⟨zf e0 vv,zf e1 vv,zf d0 vv,zf d1 vv,zf d2 vv⟩) (fun hHeld => ?_);refine kK 0 q239 ?_;refine kK 1 q240 ?_;refine kK 2 q241 ?_;refine kK 3 q242 ?_;refine kK 4 q243 ?_;refine kK 5 q244 ?_;refine kK 6 q245 ?_;refine kK 7 q246 ?_;refine kK 8 q247 ?_;refine wpAnyH_done (by kernel_rfl) ?_ _;generalize wz.drew=wy at hst vv ⊢;obtain ⟨⟨cx,cy⟩,fx,fy⟩:=hst.cell;have vv:=zw vv;have hst:=hst.below (zw (Below.refl _ _));(go_wp2_with fail);refine wp_region_held_drew (S:=(fun W=>zcc W w.heap.size 0 (.slice (some ⟨b,off,none⟩) n c)∧zcc W w1.heap.size 0 (.int .i64 r.i)∧zcc W b (off+k*3) (.int .i64 x.i)∧zcc W b (off+k*3+1) (.int .i64 x.m)∧zcc W b (off+k*3+2) (.int .i64 x.b))) (by kernel_rfl) (⟨zf e0 vv,zf e1 vv,zf d0 vv,zf d1 vv,zf d2 vv⟩) (fun hHeld => ?_);refine kK 0 q248 ?_;refine kK 2 q249 ?_;refine kK 3 q250 ?_;refine kK 4 q251 ?_;refine kK 5 q252 ?_;refine kK 6 q253 ?_;refine tR [1,7] ?_;refine AllReadyH.cons (o:=q254) rfl (fun K hK => ?_) ?_
      ·go_simp;refine kO hK (⟨zf e0 vv,zf e1 vv,zf d0 vv,zf d1 vv,zf d2 vv⟩) fun hHeld => ?_
       clear hK K;refine kR 7 q255 (fun K hK => ?_);go_simp
       first
       | refine zaq (K:=K _) (fun wx hk hbx => ?_)
       | refine zal (K:=K _) (fun wx hk hbx => ?_)
       have hst:=hst.below hbx;have vv:=zd vv hbx;obtain ⟨⟨cx,cy⟩,fx,fy⟩:=hst.cell;have hone:=zbK hk;clear hk hbx;refine kO hK (⟨zf e0 vv,zf e1 vv,zf d0 vv,zf d1 vv,zf d2 vv⟩) fun hHeld => ?_
       clear hK K;refine kR 8 q256 (fun K hK => ?_);refine zH (F:=vrowF) rfl _ _ 26 82 rfl w3.heap.size Tryz.underlying26 zaT rfl (by decide) _ _ _ rfl hst.rows _ 1 1 [x] rfl hone (by omega) vv.size ?_;intro ao8 cp8 wx how hrow hgr hbx;obtain ⟨⟨cx,fx⟩,hst⟩:=hst.push how hgr;have vv:=vv.trans hbx;clear how hrow hgr hbx hone;refine kO hK (⟨zf e0 vv,zf e1 vv,zf d0 vv,zf d1 vv,zf d2 vv⟩) fun hHeld => ?_
       clear hK K;refine kK 9 q257 ?_;refine kR 10 q258 (fun K hK => ?_);go_simp;have vv:=zj vv hX 0 (.slice ao8 (nr+1+1) cp8);refine kO hK (⟨zf e0 vv,zf e1 vv,zf d0 vv,zf d1 vv,zf d2 vv⟩) fun hHeld => ?_
       clear hK K;refine wpAnyH_done (by kernel_rfl) ?_ _;go_wp2
       go_roundw
       case rel=>exact ⟨k+1,_,_,_,_,_,by omega,by go_num,rfl,hst,Eq.trans (by have t:=zd5 (zs:=zs) (t:=v.rows.drop (k+1)) (d:=false) (by rw [hle]; rfl) hne; rw [hle] at t; exact t) HZ.out,by omega,vv⟩
       case measure=>simp [intOf]; omega
      refine AllReadyH.cons (o:=q255) rfl (fun K hK => ?_) ?_
      ·go_simp
       first
       | refine zaq (K:=K _) (fun wx hk hbx => ?_)
       | refine zal (K:=K _) (fun wx hk hbx => ?_)
       have hst:=hst.below hbx;have vv:=zd vv hbx;obtain ⟨⟨cx,cy⟩,fx,fy⟩:=hst.cell;have hone:=zbK hk;clear hk hbx;refine kO hK (⟨zf e0 vv,zf e1 vv,zf d0 vv,zf d1 vv,zf d2 vv⟩) fun hHeld => ?_
       clear hK K;refine kR 1 q254 (fun K hK => ?_);go_simp;refine kO hK (⟨zf e0 vv,zf e1 vv,zf d0 vv,zf d1 vv,zf d2 vv⟩) fun hHeld => ?_
       clear hK K;refine kR 8 q256 (fun K hK => ?_);refine zH (F:=vrowF) rfl _ _ 26 82 rfl w3.heap.size Tryz.underlying26 zaT rfl (by decide) _ _ _ rfl hst.rows _ 1 1 [x] rfl hone (by omega) vv.size ?_;intro ao8 cp8 wx how hrow hgr hbx;obtain ⟨⟨cx,fx⟩,hst⟩:=hst.push how hgr;have vv:=vv.trans hbx;clear how hrow hgr hbx hone;refine kO hK (⟨zf e0 vv,zf e1 vv,zf d0 vv,zf d1 vv,zf d2 vv⟩) fun hHeld => ?_
       clear hK K;refine kK 9 q257 ?_;refine kR 10 q258 (fun K hK => ?_);go_simp;have vv:=zj vv hX 0 (.slice ao8 (nr+1+1) cp8);refine kO hK (⟨zf e0 vv,zf e1 vv,zf d0 vv,zf d1 vv,zf d2 vv⟩) fun hHeld => ?_
       clear hK K;refine wpAnyH_done (by kernel_rfl) ?_ _;go_wp2
       go_roundw
       case rel=>exact ⟨k+1,_,_,_,_,_,by omega,by go_num,rfl,hst,Eq.trans (by have t:=zd5 (zs:=zs) (t:=v.rows.drop (k+1)) (d:=false) (by rw [hle]; rfl) hne; rw [hle] at t; exact t) HZ.out,by omega,vv⟩
       case measure=>simp [intOf]; omega
      exact AllReadyH.nil
   ·(go_wp2_with fail);refine wp_region_held_drew (S:=(fun W=>zcc W w.heap.size 0 (.slice (some ⟨b,off,none⟩) n c)∧zcc W w1.heap.size 0 (.int .i64 r.i)∧zcc W b (off+k*3) (.int .i64 x.i)∧zcc W b (off+k*3+1) (.int .i64 x.m)∧zcc W b (off+k*3+2) (.int .i64 x.b))) (by kernel_rfl) (⟨zf e0 vv,zf e1 vv,zf d0 vv,zf d1 vv,zf d2 vv⟩) (fun hHeld => ?_);refine kK 0 q226 ?_;refine kK 1 q227 ?_;refine kK 2 q228 ?_;refine kN 3 q229 ?_;refine kN 4 q230 ?_;refine kN 5 q231 ?_;refine kN 6 q232 ?_;refine kN 7 q233 ?_;refine kN 8 q234 ?_;refine kN 9 q235 ?_;refine kN 10 q236 ?_;refine kN 11 q237 ?_;refine kK 12 q238 ?_;refine wpAnyH_done (by kernel_rfl) ?_ _;generalize wr.drew=wz at hst vv ⊢;(go_wp2_with fail);cases hne:(x.i != r.i)
    ·obtain ⟨⟨cx,cy⟩,fx,fy⟩:=hst.cell;have vv:=zw vv;have hst:=hst.below (zw (Below.refl _ _));(go_wp2_with fail);refine wp_region_held_drew (S:=(fun W=>zcc W w.heap.size 0 (.slice (some ⟨b,off,none⟩) n c)∧zcc W w1.heap.size 0 (.int .i64 r.i)∧zcc W b (off+k*3) (.int .i64 x.i)∧zcc W b (off+k*3+1) (.int .i64 x.m)∧zcc W b (off+k*3+2) (.int .i64 x.b))) (by kernel_rfl) (⟨zf e0 vv,zf e1 vv,zf d0 vv,zf d1 vv,zf d2 vv⟩) (fun hHeld => ?_);refine kK 0 q239 ?_;refine kK 1 q240 ?_;refine kK 2 q241 ?_;refine kK 3 q242 ?_;refine kK 4 q243 ?_;refine kK 5 q244 ?_;refine kK 6 q245 ?_;refine kK 7 q246 ?_;refine kK 8 q247 ?_;refine wpAnyH_done (by kernel_rfl) ?_ _;go_wp2
     go_roundw
     case rel=>exact ⟨k+1,_,_,_,_,_,by omega,by go_num,rfl,hst,Eq.trans (zd6 (zs:=zs) (t:=v.rows.drop (k+1)) (d:=true) rfl hne) HZ.out,by omega,vv⟩
     case measure=>simp [intOf]; omega
    ·obtain ⟨⟨cx,cy⟩,fx,fy⟩:=hst.cell;have vv:=zw vv;have hst:=hst.below (zw (Below.refl _ _));(go_wp2_with fail);refine wp_region_held_drew (S:=(fun W=>zcc W w.heap.size 0 (.slice (some ⟨b,off,none⟩) n c)∧zcc W w1.heap.size 0 (.int .i64 r.i)∧zcc W b (off+k*3) (.int .i64 x.i)∧zcc W b (off+k*3+1) (.int .i64 x.m)∧zcc W b (off+k*3+2) (.int .i64 x.b))) (by kernel_rfl) (⟨zf e0 vv,zf e1 vv,zf d0 vv,zf d1 vv,zf d2 vv⟩) (fun hHeld => ?_);refine kK 0 q239 ?_;refine kK 1 q240 ?_;refine kK 2 q241 ?_;refine kK 3 q242 ?_;refine kK 4 q243 ?_;refine kK 5 q244 ?_;refine kK 6 q245 ?_;refine kK 7 q246 ?_;refine kK 8 q247 ?_;refine wpAnyH_done (by kernel_rfl) ?_ _;generalize wz.drew=wy at hst vv ⊢;obtain ⟨⟨cx,cy⟩,fx,fy⟩:=hst.cell;have vv:=zw vv;have hst:=hst.below (zw (Below.refl _ _));(go_wp2_with fail);refine wp_region_held_drew (S:=(fun W=>zcc W w.heap.size 0 (.slice (some ⟨b,off,none⟩) n c)∧zcc W w1.heap.size 0 (.int .i64 r.i)∧zcc W b (off+k*3) (.int .i64 x.i)∧zcc W b (off+k*3+1) (.int .i64 x.m)∧zcc W b (off+k*3+2) (.int .i64 x.b))) (by kernel_rfl) (⟨zf e0 vv,zf e1 vv,zf d0 vv,zf d1 vv,zf d2 vv⟩) (fun hHeld => ?_);refine kK 0 q248 ?_;refine kK 2 q249 ?_;refine kK 3 q250 ?_;refine kK 4 q251 ?_;refine kK 5 q252 ?_;refine kK 6 q253 ?_;refine tR [1,7] ?_;refine AllReadyH.cons (o:=q254) rfl (fun K hK => ?_) ?_
     ·go_simp;refine kO hK (⟨zf e0 vv,zf e1 vv,zf d0 vv,zf d1 vv,zf d2 vv⟩) fun hHeld => ?_
      clear hK K;refine kR 7 q255 (fun K hK => ?_);go_simp
      first
      | refine zaq (K:=K _) (fun wx hk hbx => ?_)
      | refine zal (K:=K _) (fun wx hk hbx => ?_)
      have hst:=hst.below hbx;have vv:=zd vv hbx;obtain ⟨⟨cx,cy⟩,fx,fy⟩:=hst.cell;have hone:=zbK hk;clear hk hbx;refine kO hK (⟨zf e0 vv,zf e1 vv,zf d0 vv,zf d1 vv,zf d2 vv⟩) fun hHeld => ?_
      clear hK K;refine kR 8 q256 (fun K hK => ?_);refine zH (F:=vrowF) rfl _ _ 26 82 rfl w3.heap.size Tryz.underlying26 zaT rfl (by decide) _ _ _ rfl hst.rows _ 1 1 [x] rfl hone (by omega) vv.size ?_;intro ao8 cp8 wx how hrow hgr hbx;obtain ⟨⟨cx,fx⟩,hst⟩:=hst.push how hgr;have vv:=vv.trans hbx;clear how hrow hgr hbx hone;refine kO hK (⟨zf e0 vv,zf e1 vv,zf d0 vv,zf d1 vv,zf d2 vv⟩) fun hHeld => ?_
      clear hK K;refine kK 9 q257 ?_;refine kR 10 q258 (fun K hK => ?_);go_simp;have vv:=zj vv hX 0 (.slice ao8 (nr+1) cp8);refine kO hK (⟨zf e0 vv,zf e1 vv,zf d0 vv,zf d1 vv,zf d2 vv⟩) fun hHeld => ?_
      clear hK K;refine wpAnyH_done (by kernel_rfl) ?_ _;go_wp2
      go_roundw
      case rel=>exact ⟨k+1,_,_,_,_,_,by omega,by go_num,rfl,hst,Eq.trans (zb9 (zs:=zs) (t:=v.rows.drop (k+1)) (d:=true) rfl hne) HZ.out,by omega,vv⟩
      case measure=>simp [intOf]; omega
     refine AllReadyH.cons (o:=q255) rfl (fun K hK => ?_) ?_
     ·go_simp
      first
      | refine zaq (K:=K _) (fun wx hk hbx => ?_)
      | refine zal (K:=K _) (fun wx hk hbx => ?_)
      have hst:=hst.below hbx;have vv:=zd vv hbx;obtain ⟨⟨cx,cy⟩,fx,fy⟩:=hst.cell;have hone:=zbK hk;clear hk hbx;refine kO hK (⟨zf e0 vv,zf e1 vv,zf d0 vv,zf d1 vv,zf d2 vv⟩) fun hHeld => ?_
      clear hK K;refine kR 1 q254 (fun K hK => ?_);go_simp;refine kO hK (⟨zf e0 vv,zf e1 vv,zf d0 vv,zf d1 vv,zf d2 vv⟩) fun hHeld => ?_
      clear hK K;refine kR 8 q256 (fun K hK => ?_);refine zH (F:=vrowF) rfl _ _ 26 82 rfl w3.heap.size Tryz.underlying26 zaT rfl (by decide) _ _ _ rfl hst.rows _ 1 1 [x] rfl hone (by omega) vv.size ?_;intro ao8 cp8 wx how hrow hgr hbx;obtain ⟨⟨cx,fx⟩,hst⟩:=hst.push how hgr;have vv:=vv.trans hbx;clear how hrow hgr hbx hone;refine kO hK (⟨zf e0 vv,zf e1 vv,zf d0 vv,zf d1 vv,zf d2 vv⟩) fun hHeld => ?_
      clear hK K;refine kK 9 q257 ?_;refine kR 10 q258 (fun K hK => ?_);go_simp;have vv:=zj vv hX 0 (.slice ao8 (nr+1) cp8);refine kO hK (⟨zf e0 vv,zf e1 vv,zf d0 vv,zf d1 vv,zf d2 vv⟩) fun hHeld => ?_
      clear hK K;refine wpAnyH_done (by kernel_rfl) ?_ _;go_wp2
      go_roundw
      case rel=>exact ⟨k+1,_,_,_,_,_,by omega,by go_num,rfl,hst,Eq.trans (zb9 (zs:=zs) (t:=v.rows.drop (k+1)) (d:=true) rfl hne) HZ.out,by omega,vv⟩
      case measure=>simp [intOf]; omega
     exact AllReadyH.nil
  ·have hkn:n=k:=by omega
   subst hkn;have hd0:v.rows.drop n=[]:=List.drop_eq_nil_of_le (by omega);rw [hd0] at hzs;cases d
   ·have hz:zs++[r]=zL v.rows r false:=by simpa [zL] using hzs
    have HZ:=hide hz;clear hz hzs hd0;have g1:=zf e1 vv;have g2:=zf e2 vv;have g3:=zf e3 vv;obtain ⟨⟨cx,cy⟩,fx,fy⟩:=hst.cell;generalize hw8:World.alloc wr (Obj.cells #[Value.int .i64 r.i,Value.int .i64 r.m,Value.int .i64 r.b] 82)=w8;have b8:Below (World.heap wr).size wr w8:=by subst hw8; exact zh _ _
    have hst':=hst.below b8;have vv':=zd vv b8;have hone:GRow vrowF w8 (some ⟨(World.heap wr).size,0,none⟩) 1 1 [r]:=zbK (zk hw8);go_wp2_with (at_builtin; refine zx (F:=vrowF) _ rfl _ _ 26 82 rfl w3.heap.size Tryz.underlying26 zaT rfl (by decide) _ _ _ rfl hst'.rows _ 1 1 [r] rfl hone (by omega) vv'.size ?_)
    intro ao7 cp7 wx how hrow hgr hbx;obtain ⟨⟨cx,fx⟩,hst⟩:=hst'.push how hgr;have vv:=zj (vv'.trans hbx) hX 0 (.slice ao7 (nr+1) cp7);clear how hrow hgr hbx hone hst' vv' b8 hw8 g1 g2 g3 cy fy;generalize hw9:World.setCell wx ⟨w5.heap.size,0,none⟩ (.slice ao7 (nr+1) cp7)=wz at hst vv;obtain ⟨⟨cx,cy⟩,fx,fy⟩:=hst.cell;obtain ⟨⟨g0,g1⟩,y0,y1⟩:=zy (ze k2 vv);have hO:=((⟨hst.rows,hst.own,h.own.byte⟩:VOwn _ w3.heap.size _ _ _ oo p qq ⟨zs++[r],v.own⟩).set2 (g:=w2.heap.size) z3.out (.slice ao7 (nr+1) cp7) (.slice oo p qq)).lt (base':=w.heap.size) b03.size;have hbW:=zj (zj (zd b03 vv) (zd b01 b12).size 0 (.slice ao7 (nr+1) cp7)) (zd b01 b12).size 1 (.slice oo p qq);rw [HZ.out] at hO;have HO:=hide hO;clear hO hst;go_wp2;exact bodyPost_ret (v:=.agg #[.slice ao7 (nr+1) cp7,.slice oo p qq]) (by simp [results,Tryz.results145,go_sem, *]) rfl ⟨_,_,_,_,_,rfl,HO.out,hbW⟩
   ·have hz:zs=zL v.rows r false:=by simpa [zL] using hzs
    have HZ:=hide hz;clear hz hzs hd0;obtain ⟨⟨cx,cy⟩,fx,fy⟩:=hst.cell;obtain ⟨⟨g0,g1⟩,y0,y1⟩:=zy (ze k2 vv);have hO:=((⟨hst.rows,hst.own,h.own.byte⟩:VOwn _ w3.heap.size _ _ _ oo p qq ⟨zs,v.own⟩).set2 (g:=w2.heap.size) z3.out (.slice ar nr cr) (.slice oo p qq)).lt (base':=w.heap.size) b03.size;have hbW:=zj (zj (zd b03 vv) (zd b01 b12).size 0 (.slice ar nr cr)) (zd b01 b12).size 1 (.slice oo p qq);rw [HZ.out] at hO;have HO:=hide hO;clear hO hst;go_wp2;exact bodyPost_ret (v:=.agg #[.slice ar nr cr,.slice oo p qq]) (by simp [results,Tryz.results145,go_sem, *]) rfl ⟨_,_,_,_,_,rfl,HO.out,hbW⟩

end Go.Proofs.YtljbdmlgfggadaaGreat
