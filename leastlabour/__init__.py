"""Goods made of labour and of one another, judged for all wishes, shares, labours and rates."""
