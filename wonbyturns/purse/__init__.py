"""Games of ups and downs, by the rests of a purse and by what came last."""
