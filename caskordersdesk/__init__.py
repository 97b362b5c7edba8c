"""Casks to order: a shop's staves, and the kinds of casks that can be made of them."""
