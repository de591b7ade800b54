"""Recipes: texts that tell a beer's malts, hops and other things by parts."""
